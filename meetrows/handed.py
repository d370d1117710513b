"""What is handed in: refused where it is not what it has to be, else told as a copy of its own."""

from meetrows.errors import BadName, BadRow
from meetrows.sets import MOST_LETTERS, is_name, rising


def name_from(thing):
    """The name handed in; BadName for a thing of any kind that is none."""
    if not is_name(thing):
        raise BadName(f"what was handed in is not a text of 1 to {MOST_LETTERS} small letters")
    return thing


def names_from(thing):
    """The set of the list of names handed in, also twice; BadRow for what is no list, then BadName."""
    if not isinstance(thing, list):
        raise BadRow("what was handed in is no list")
    return rising(thing)


def row_from(thing):
    """The set of the row handed in; BadRow for what is no list, then BadName, then BadRow for a name twice."""
    names = names_from(thing)
    if len(names) != len(thing):
        raise BadRow("a name stands twice in the row")
    return names
