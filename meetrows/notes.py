"""Books as texts: a line for each row."""

from meetrows.books import Book
from meetrows.errors import MeetError, Unread

EMPTY_ROW = "-"


def text_of(book):
    """The text of a Book: its rows in order, line by line."""
    return "\n".join([_line_of(row) for _, row in book.rows()])


def read(text):
    """The Book whose text is handed in; Unread for whatever else is."""
    if not isinstance(text, str):
        raise Unread("what was handed in is no text")
    book = Book()
    for at, names in enumerate(_rows_in(text)):
        if names != sorted(names):
            raise Unread(f"the names of line {at} are not rising")
        try:
            book.put(names)
        except MeetError as why:
            raise Unread(f"line {at}: {why}") from None
    return book


def _line_of(row):
    """The line of a row, a set."""
    return " ".join(row) if row else EMPTY_ROW


def _rows_in(text):
    """What stands between the blanks of each line, a list for each; nothing is refused here."""
    # Split, the text of a book without rows would be one empty line.
    if text == "":
        return []
    return [[] if line == EMPTY_ROW else line.split(" ") for line in text.split("\n")]
