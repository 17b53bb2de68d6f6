"""Waits: when a letter comes that is sent at any time of a day that comes again."""

from satchelmeet.books import meetings_of
from satchelmeet.days import again_times


def waits(book, day, walker, other):
    told = []
    # A later since changes something only where it reaches one of the sender's own meetings.
    whens = [book[1][number][2] for number in meetings_of(book, walker)]
    for since in [0] + [when for when in whens if when != day]:
        time = again_times(book, day, walker, since)[other]
        if time is None:
            return None
        if not told or told[-1][1] != time:
            told.append((since, time))
    return told
