"""Wrong things to hand in, and the points of the document word by word, for the tests."""

from itertools import combinations, product
from random import Random

from meetrows.books import Book


class Stubborn:
    """A thing that can be neither compared, hashed, measured nor written out."""

    def refuse(self, *_):
        raise RuntimeError("asked")

    __eq__ = __lt__ = __hash__ = __len__ = __iter__ = __repr__ = __str__ = __bool__ = refuse


WRONG_TEXTS = {
    "empty": "",
    "nine letters": "abcdefghi",
    "many letters": "a" * 1000,
    "capital": "A",
    "capital first": "Abc",
    "capital last": "abC",
    "digit": "7",
    "digit last": "a1",
    "blank": " ",
    "blank first": " a",
    "blank between": "a b",
    "blank last": "a ",
    "tab": "a\tb",
    "line end": "\n",
    "line end last": "abc\n",
    "line end behind eight": "abcdefgh\n",
    "carriage return": "abc\r",
    "zero character": "abc\0",
    "minus": "-",
    "underscore": "a_b",
    "full stop": "a.b",
    "just ahead of a": "`",
    "just behind z": "{",
    "a with two dots": "\u00e4",
    "sharp s last": "gro\u00df",
    "i without a dot": "\u0131",
    "small ordinal sign": "\u00aa",
    "letter of another script": "\u0430",
    "wide letter": "\uff41",
    "letter with a mark behind it": "a\u0301",
    "half a letter": "\ud835",
}

OTHER_KINDS = {
    "zero": 0,
    "number": 7,
    "huge number": 10 ** 5000,
    "fraction": 1.5,
    "True": True,
    "False": False,
    "None": None,
    "list": [],
    "list of a name": ["a"],
    "tuple": (),
    "tuple of a name": ("a",),
    "bytes": b"abc",
    "no bytes": b"",
    "dict": {"a": 1},
    "set": {"a"},
    "function": len,
    "class": str,
    "stubborn": Stubborn(),
}

NO_NAMES = {**WRONG_TEXTS, **OTHER_KINDS}

NO_LISTS = {
    **{what: thing for what, thing in OTHER_KINDS.items() if not isinstance(thing, list)},
    "empty text": "",
    "name": "abc",
    "line": "a b",
    "keys of a dict": {"a": 1}.keys(),
    "generator": (name for name in ["a"]),
}

NO_NUMBERS = {
    "True": True,
    "False": False,
    "None": None,
    "fraction alike to 0": 0.0,
    "fraction alike to 1": 1.0,
    "no number at all": float("nan"),
    "complex": 1j,
    "digit": "0",
    "empty text": "",
    "bytes": b"0",
    "list": [],
    "list of a number": [0],
    "tuple": (),
    "tuple of a number": (0,),
    "dict": {},
    "set": {0},
    "function": len,
    "class": int,
    "stubborn": Stubborn(),
    "below 0": -1,
    "far below 0": -30,
    "huge": 10 ** 5000,
    "huge below 0": -10 ** 5000,
}

LETTERS = "abcdefghijklmnopqrstuvwxyz"


def subsets(names):
    """All sets of some of the names, each rising, the shorter ones first, of as many in order."""
    return [list(one) for many in range(len(names) + 1) for one in combinations(sorted(names), many)]


def meets_all(one, rows):
    """Point 2: whether a set meets each row."""
    return all(set(one) & set(row) for row in rows)


def least_by_words(rows):
    """Points 2 and 3: the sets that meet each row, and within which no other one that does lies."""
    return least_by_words_of([one for one in subsets({name for row in rows for name in row}) if meets_all(one, rows)])


def least_by_words_of(sets):
    """Those within which no other one lies but itself, each once, in the order of point 3."""
    least = []
    for one in sorted({tuple(sorted(set(one))) for one in sets}, key=lambda one: (len(one), one)):
        if not any(set(other) < set(one) for other in least):
            least.append(one)
    return [list(one) for one in least]


def small_books():
    """The rows of all books of at most three rows over three names, of which one begins another."""
    every = subsets(["a", "ab", "b"])
    return [list(rows) for many in range(4) for rows in product(every, repeat=many)]


def mixed_books(many, names, most_rows, seed):
    """The rows of many books over these names, always the same ones for a seed."""
    chance = Random(seed)
    return [
        [chance.sample(names, chance.randint(1, 5)) for _ in range(chance.randint(1, most_rows))]
        for _ in range(many)
    ]


def book_of(rows):
    book = Book()
    for row in rows:
        book.put(row)
    return book


def sets_in(book):
    """The sets of a book's rows, in order, without their numbers."""
    return [row for _, row in book.rows()]


def spoil(told):
    """Changes a told list, and each list that stands in it, also within a tuple."""
    for one in told:
        for part in one if isinstance(one, tuple) else (one,):
            if isinstance(part, list):
                part.append("spoilt")
    told.append("spoilt")
    told.reverse()
