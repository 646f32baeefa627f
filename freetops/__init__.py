"""Freetops: rows of polynomials whose tops never cancel."""
