"""Books alike: whether all letters since 0 come alike in two books, and books with no meeting to spare."""

from satchelmeet.changes import without
from satchelmeet.errors import NoBook
from satchelmeet.walls import earliest_times


def parting(book, other):
    if len(book[0]) != len(other[0]):
        raise NoBook("only books with as many walkers are set side by side")
    for sender in range(len(book[0])):
        here = earliest_times(book, sender, 0)
        there = earliest_times(other, sender, 0)
        for wish in range(len(here)):
            if here[wish] != there[wish]:
                return (sender, 0, wish, lesser(here[wish], there[wish]))
    return None


def lesser(one, other):
    """The lesser of two unlike times, or the one that is not None."""
    return min([time for time in (one, other) if time is not None])


def thinned(book):
    thin = book
    # A meeting that is needed now is needed when still fewer are left, so each is tried but once; from the last
    # one on, so that those still to be tried keep their numbers.
    for number in reversed(range(len(book[1]))):
        rest = without(thin, number)
        if parting(book, rest) is None:
            thin = rest
    return (thin, [parting(thin, without(thin, number)) for number in range(len(thin[1]))])
