"""Books of rows: their least sets, what these tell of the names, and books made of other ones."""

from meetrows.errors import NoMeet, NoRow, TooMany
from meetrows.growing import grown
from meetrows.handed import name_from, names_from, row_from
from meetrows.sets import least_of, meets, rising

# Also read off the class, where a value has to be written out once more.
MOST_ROWS = 30
MOST_NAMES = 12


class Book:
    """Rows with numbers, in the order in which they were put; no rows at first."""

    MOST_ROWS = 30
    MOST_NAMES = 12

    def __init__(self):
        # The set of each row that is there, by its number, and so in the order of the numbers.
        self._rows = {}
        self._next_number = 0

    def put(self, row):
        """The new row's number; BadRow, BadName, BadRow for a name twice, or TooMany, asked in this order."""
        names = row_from(row)
        if len(self._rows) >= MOST_ROWS:
            raise TooMany(f"a book has at most {MOST_ROWS} rows at once")
        if len(rising(self.names() + names)) > MOST_NAMES:
            raise TooMany(f"at most {MOST_NAMES} names stand in the rows of a book")
        number = self._next_number
        self._rows[number] = names
        # A row that is taken leaves its number behind, so the rows there do not tell the next one.
        self._next_number = number + 1
        return number

    def take(self, number):
        """Takes the row of that number away; NoRow for what is no number of a row that is there."""
        # True would else find row 1, and a list could not be looked up at all.
        if not isinstance(number, int) or isinstance(number, bool) or number not in self._rows:
            raise NoRow("what was handed in is no number of a row that is there")
        del self._rows[number]

    def rows(self):
        """The rows as tuples (number, set), by rising numbers."""
        return [(number, list(row)) for number, row in self._rows.items()]

    def names(self):
        """The names that stand in rows, a set."""
        return sorted({name for row in self._sets() for name in row})

    def least(self):
        """The least sets, ranked."""
        sets = [[]]
        # The least rows have the same least sets as all rows, and are fewer.
        for row in self.least_rows():
            sets = grown(sets, row)
        return sets

    def fewest(self):
        """How many names the shortest least set has, None where there is none."""
        sets = self.least()
        return len(sets[0]) if sets else None

    def meets(self, names):
        """Whether a list of names meets each row; BadRow for what is no list, then BadName."""
        return self._met_by(names_from(names))

    def pared(self, names):
        """The least set that paring leaves of a list of names; NoMeet where they don't meet the book."""
        asked = self._meeting(names)
        kept = asked
        for name in reversed(asked):
            rest = [one for one in kept if one != name]
            if self._met_by(rest):
                kept = rest
        return kept

    def own(self, names):
        """For each name of a least set, rising, (name, number) of the first row of its own; else NoMeet."""
        asked = self._meeting(names)
        told = [(name, self._first_own(name, asked)) for name in asked]
        if any(number is None for _, number in told):
            raise NoMeet("the names meet the book, but are no least set of it")
        return told

    def least_rows(self):
        """The rows within which no other one lies but itself, each once, ranked."""
        return least_of(self._sets())

    def needed(self):
        """The names that stand in every least set, where there is one; a set."""
        # An empty row is the one least row, so that none of a single name is left beside it.
        return [row[0] for row in self.least_rows() if len(row) == 1]

    def idle(self):
        """The names that stand in some row, but in no least set; a set."""
        return sorted(set(self.names()) - {name for row in self.least_rows() for name in row})

    def struck(self, name):
        """A new Book of all rows without that name in them, in order; BadName."""
        gone = name_from(name)
        return _book_of([[one for one in row if one != gone] for row in self._sets()])

    def without(self, name):
        """A new Book of the rows in which that name doesn't stand, in order; BadName."""
        gone = name_from(name)
        return _book_of([row for row in self._sets() if gone not in row])

    def joined(self, other):
        """A new Book of the rows of this one and then those of the other; TooMany as in put."""
        return _book_of(self._sets() + other._sets())

    def crossed(self, other):
        """A new Book with a row for each row of this one and each of the other; TooMany as in put."""
        return _book_of([rising(row + theirs) for row in self._sets() for theirs in other._sets()])

    def _sets(self):
        """The rows as sets, in order: the book's own, not to be told."""
        return list(self._rows.values())

    def _met_by(self, one):
        """Whether the set meets each row."""
        return all(meets(one, row) for row in self._sets())

    def _meeting(self, names):
        """The set of a list of names that meets the book; BadRow, BadName, or NoMeet where it doesn't."""
        asked = names_from(names)
        if not self._met_by(asked):
            raise NoMeet("the names do not meet each row of the book")
        return asked

    def _first_own(self, name, asked):
        """The number of the first row in which of the set asked for that name stands alone; None if there is none."""
        for number, row in self._rows.items():
            if [one for one in asked if one in row] == [name]:
                return number
        return None


def _book_of(rows):
    """A new Book of these rows, numbered from 0 on; TooMany as in put."""
    book = Book()
    for row in rows:
        book.put(row)
    return book
