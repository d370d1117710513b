"""The refusals of Meetrows: one class for each kind, all straight under MeetError."""


class MeetError(ValueError):
    """Any refusal."""


class BadName(MeetError):
    """What was handed in as a name is none."""


class BadRow(MeetError):
    """What was handed in as a row or as a list of names is none."""


class NoRow(MeetError):
    """There is no row with the number that was handed in."""


class TooMany(MeetError):
    """A book would have more rows, or more names in them, than it may."""


class NoMeet(MeetError):
    """The names handed in do not meet the book, or are no least set of it."""


class Unread(MeetError):
    """What was handed in as a written book is none."""
