"""Rooms of points: columns heard at residues, some of them wrong, and the spans that tell the answers."""

from freetops.checks import check_different, check_number, check_prime
from freetops.errors import Full, InvalidColumn, InvalidNumber, InvalidPoint, SamePoint, UnknownPoint
from freetops.formpoints import form_through, vanishing_at
from freetops.numbers import are_residues, is_residue
from freetops.rows import row_times, unit_row
from freetops.spans import Span

MOST_WIDTH = 3
MOST_BOUND = 20
MOST_HEARD = 40


class PointRoom:
    """A room of points with a list of heard points."""

    def __init__(self, prime, width, bound, heard=()):
        check_prime(prime)
        check_number(width, 1, MOST_WIDTH)
        check_number(bound, 1, MOST_BOUND)
        if not isinstance(heard, (list, tuple)):
            raise InvalidPoint(-1)
        for at, pair in enumerate(heard):
            if not _is_heard(prime, width, pair):
                raise InvalidPoint(at)
        check_different(heard)
        if len(heard) > MOST_HEARD:
            raise Full(MOST_HEARD)
        self.prime = prime
        self.width = width
        self.bound = bound
        self._heard = list(heard)

    @property
    def heights(self):
        """The heights of the span of the room."""
        return self.span().heights

    def put(self, point, *letters):
        """Hears the column of these letters at a residue."""
        if not is_residue(self.prime, point):
            raise InvalidNumber(point)
        if point in self:
            raise SamePoint(point)
        if not are_residues(self.prime, self.width, letters):
            raise InvalidColumn(0)
        if len(self._heard) >= MOST_HEARD:
            raise Full(MOST_HEARD)
        self._heard.append((point, letters))

    def lose(self, point):
        """Takes a heard point out."""
        if point not in self:
            raise UnknownPoint(point)
        self._heard = [pair for pair in self._heard if pair[0] != point]

    def heard(self):
        """The heard points, in the order in which they were put in."""
        return list(self._heard)

    def span(self):
        """The span of the room."""
        forms = [self._form_through_letters(at) for at in range(self.width)]
        vanishing = vanishing_at(self.prime, [point for point, _ in self._heard])
        rows = [((1,), *forms)]
        for place in range(1, self.width + 1):
            rows.append(row_times(self.prime, unit_row(self.width + 1, place), vanishing))
        return Span(self.prime, (self.bound - 1,) + (0,) * self.width, rows)

    def _form_through_letters(self, at):
        return form_through(self.prime, [(point, column[at]) for point, column in self._heard])

    def twin(self):
        """An independent room in the same state."""
        return PointRoom(self.prime, self.width, self.bound, self._heard)

    def __contains__(self, point):
        return is_residue(self.prime, point) and point in [heard for heard, _ in self._heard]

    def __eq__(self, other):
        if not isinstance(other, PointRoom) or self.prime != other.prime:
            return False
        if self.width != other.width or self.bound != other.bound:
            return False
        return sorted(self._heard) == sorted(other._heard)

    def __len__(self):
        return len(self._heard)

    def __bool__(self):
        return True

    def __repr__(self):
        return f"PointRoom(p {self.prime}, width {self.width}, bound {self.bound}, {len(self._heard)} points)"


def _is_heard(prime, width, value):
    """Whether any value is a pair of a residue and a column."""
    if not isinstance(value, tuple) or len(value) != 2:
        return False
    return is_residue(prime, value[0]) and are_residues(prime, width, value[1])
