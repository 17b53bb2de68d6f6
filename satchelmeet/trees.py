"""Trees: givings by which one letter comes to several wishes."""

from satchelmeet.books import is_meeting_number, is_walker, lone_row, other_at
from satchelmeet.wholes import is_below, is_upto


def tree_serves(book, sender, since, wishes, thing):
    times = tree_times(book, sender, since, thing)
    return times is not None and all([is_upto(times[walker], last) for walker, last in wishes])


def tree_times(book, sender, since, thing):
    """For each walker since when it has the letter by a tree, or None; None where it is no tree."""
    if not isinstance(thing, list):
        return None
    times = lone_row(book, sender, since)
    behind = -1
    for part in thing:
        if not is_giving(book, part):
            return None
        number, giver = part
        when = book[1][number][2]
        if number <= behind or not is_below(times[giver], when):
            return None
        behind = number
        other = other_at(book, number, giver)
        if times[other] is None:
            times[other] = when
    return times


def is_giving(book, thing):
    if not isinstance(thing, tuple) or len(thing) != 2:
        return False
    number, giver = thing
    return is_meeting_number(book, number) and is_walker(book, giver) and giver in book[1][number][:2]
