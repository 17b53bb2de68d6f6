"""Days that come again: a book that is gone through round by round, for ever."""

from satchelmeet.books import lone_row, ways
from satchelmeet.errors import NoDay
from satchelmeet.wholes import is_below, is_within

LONGEST_DAY = 10 ** 6


def again_times(book, day, sender, since):
    need_day(book, day)
    times, came = first_givings_again(book, day, sender, since)
    return times


def again_chain(book, day, sender, since, wish):
    need_day(book, day)
    times, came = first_givings_again(book, day, sender, since)
    if times[wish] is None:
        return None
    chain = []
    walker = wish
    while walker != sender:
        number, turn, walker = came[walker]
        chain.append((number, turn))
    return chain[::-1]


def first_givings_again(book, day, sender, since):
    """The earliest times, and a dict: for each one who came to have it, the meeting, its round and the giver."""
    times = lone_row(book, sender, since)
    came = {}
    first = since // day
    # Each whole round brings the letter to one more at least, or to nobody ever after; the first one may be cut.
    for turn in range(first, first + len(times)):
        for number, giver, other, when in ways(book):
            time = when + turn * day
            if times[other] is None and is_below(times[giver], time):
                times[other] = time
                came[other] = (number, turn, giver)
    return (times, came)


def hangs_with(book, walker):
    # Since 0 a letter comes to all of them in days of any length; only who meets whom counts.
    last = max([meeting[2] for meeting in book[1]], default=1)
    times, came = first_givings_again(book, last, walker, 0)
    return [other for other, time in enumerate(times) if time is not None]


def need_day(book, day):
    if not is_within(day, 1, LONGEST_DAY) or any([meeting[2] > day for meeting in book[1]]):
        raise NoDay("a day is a whole number from 1 to 10 ** 6, no less than any when")
