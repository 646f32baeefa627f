"""Rooms of letters: rows of letters, and the spans that tell the rules they follow."""

from freetops.checks import check_prime
from freetops.errors import Full, InvalidColumn, InvalidNumber, NothingLeft, Unlike
from freetops.forms import form_of, raised
from freetops.numbers import are_residues, is_number
from freetops.rows import row_times, unit_row
from freetops.spans import Span

MOST_WIDTH = 3
MOST_COLUMNS = 60


class LetterRoom:
    """A room of letters with a list of columns."""

    def __init__(self, prime, width, columns=()):
        check_prime(prime)
        if not is_number(width, 1, MOST_WIDTH):
            raise InvalidNumber(width)
        if not isinstance(columns, (list, tuple)):
            raise InvalidColumn(-1)
        for at, column in enumerate(columns):
            if not are_residues(prime, width, column):
                raise InvalidColumn(at)
        if len(columns) > MOST_COLUMNS:
            raise Full(MOST_COLUMNS)
        self.prime = prime
        self.width = width
        self._columns = list(columns)

    @property
    def heights(self):
        """The heights of the span of the room."""
        return self.span().heights

    @property
    def least_order(self):
        """The least order of which there is a rule."""
        return _least_order(self.span())

    def put(self, *letters):
        """Puts in the column of these letters, one for each letter row."""
        if not are_residues(self.prime, self.width, letters):
            raise InvalidColumn(0)
        if len(self._columns) >= MOST_COLUMNS:
            raise Full(MOST_COLUMNS)
        self._columns.append(letters)

    def take_back(self):
        """Takes the last column out."""
        if not self._columns:
            raise NothingLeft()
        self._columns.pop()

    def columns(self):
        """The columns, in order."""
        return list(self._columns)

    def span(self):
        """The span of the room."""
        return _span_of(self.prime, self.width, self._columns)

    def walk(self):
        """The pairs of least order and heights of the rooms of the first 0, 1, .. columns."""
        columns = self.columns()
        for many in range(len(columns) + 1):
            span = _span_of(self.prime, self.width, columns[:many])
            yield _least_order(span), span.heights

    def twin(self):
        """An independent room in the same state."""
        return self._room_of(self.width, list(self._columns))

    def _room_of(self, width, columns):
        # a sum may be wider than a room that callers make, so the width is set behind the check
        room = LetterRoom(self.prime, 1)
        room.width = width
        room._columns = columns
        return room

    def __add__(self, other):
        if not self._goes_with(other):
            raise Unlike()
        columns = [one + another for one, another in zip(self._columns, other._columns)]
        return self._room_of(self.width + other.width, columns)

    def _goes_with(self, other):
        if not isinstance(other, LetterRoom) or self.prime != other.prime:
            return False
        return len(self._columns) == len(other._columns)

    def __eq__(self, other):
        if not self._goes_with(other):
            return False
        return self.width == other.width and self._columns == other._columns

    def __len__(self):
        return len(self._columns)

    def __bool__(self):
        return True

    def __repr__(self):
        return f"LetterRoom(p {self.prime}, width {self.width}, {len(self._columns)} columns)"


def _span_of(prime, width, columns):
    """The span of the room of some columns."""
    forms = [form_of(prime, [column[at] for column in columns]) for at in range(width)]
    power = raised((1,), len(columns))
    rows = [((1,), *forms)]
    for place in range(1, width + 1):
        rows.append(row_times(prime, unit_row(width + 1, place), power))
    return Span(prime, (0,) + (1,) * width, rows)


def _least_order(span):
    """The least height of a key row whose first form has a constant coefficient other than 0."""
    found = [height for height, row in zip(span.heights, span.key()) if row[0] and row[0][0] != 0]
    return min(found)
