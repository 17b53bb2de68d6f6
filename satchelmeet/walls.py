"""Walls: times ahead of which nobody has a letter, and the earliest chain of one."""

from satchelmeet.books import is_row, lone_row, ways
from satchelmeet.letters import is_letter
from satchelmeet.wholes import is_below, is_upto


def earliest_times(book, sender, since):
    times, came = first_givings(book, sender, since)
    return times


def earliest(book, letter):
    # What is no letter may name walkers that there are not; it has no chain.
    if not is_letter(book, letter):
        return None
    sender, since, wish, last = letter
    times, came = first_givings(book, sender, since)
    if not is_upto(times[wish], last):
        return None
    chain = []
    walker = wish
    while walker != sender:
        number, walker = came[walker]
        chain.append(number)
    return chain[::-1]


def first_givings(book, sender, since):
    """The earliest times, and a dict: for each one who came to have it, the meeting and the giver."""
    times = lone_row(book, sender, since)
    came = {}
    # Nobody has two meetings at one time, so by their order each time is the earliest when it is set.
    for number, giver, other, when in ways(book):
        if times[other] is None and is_below(times[giver], when):
            times[other] = when
            came[other] = (number, giver)
    return (times, came)


def bars(book, letter, thing):
    if not is_letter(book, letter) or not is_row(book, thing):
        return False
    sender, since, wish, last = letter
    if not is_upto(thing[sender], since) or is_upto(thing[wish], last):
        return False
    return lets_nothing_ahead(book, thing)


def lets_nothing_ahead(book, times):
    for number, giver, other, when in ways(book):
        if is_below(times[giver], when) and not is_upto(times[other], when):
            return False
    return True
