"""Refusals: one class for each kind, all of them right under MeetError."""


class MeetError(ValueError):
    """Any refusal."""


class NoBook(MeetError):
    """What was handed in, or what a change would make, is no book."""


class NoMeeting(MeetError):
    """A meeting that there is not, or that is over."""


class NoDeed(MeetError):
    """What is no deed."""


class NoLetter(MeetError):
    """A letter that there is not, or may not be."""


class NoWalker(MeetError):
    """A walker that there is not, or not at this meeting."""


class NotThere(MeetError):
    """The one who should give or drop a letter has not got it in time."""


class HasIt(MeetError):
    """The one who should get a letter has it."""


class NoPass(MeetError):
    """As many letters as may pass at a meeting have passed."""


class NoRoom(MeetError):
    """A bag is full."""


class NoRule(MeetError):
    """What is no rule, or none for this book."""


class TooMany(MeetError):
    """A book too large for what is asked."""


class NoDay(MeetError):
    """What is no day for this book."""


class NoClaim(MeetError):
    """What is no claim."""


class NoText(MeetError):
    """Rows that are no text of a book."""


class NoRow(MeetError):
    """What is no row for a desk."""


class NoName(MeetError):
    """What is no name."""


class Twice(MeetError):
    """A name that stands already."""
