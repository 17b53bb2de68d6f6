"""Leavings: how late a letter may be sent and still come, and the walls that show it."""

from satchelmeet.books import is_row, lone_row, ways
from satchelmeet.letters import is_letter
from satchelmeet.walls import earliest
from satchelmeet.wholes import is_from


def leavings(book, wish, last):
    left = lone_row(book, wish, last)
    # From the last meeting back, so the first number that is set is the greatest.
    for number, giver, other, when in ways(book)[::-1]:
        if left[giver] is None and is_from(left[other], when):
            left[giver] = when - 1
    return left


def latest(book, letter):
    # What is no letter may name walkers that there are not; it has no chain.
    if not is_letter(book, letter):
        return None
    sender, since, wish, last = letter
    greatest = leavings(book, wish, last)[sender]
    if greatest is None:
        return None
    return (greatest, earliest(book, (sender, greatest, wish, last)))


def bars_back(book, letter, thing):
    if not is_letter(book, letter) or not is_row(book, thing):
        return False
    sender, since, wish, last = letter
    if not is_from(thing[wish], last) or is_from(thing[sender], since):
        return False
    return lets_nothing_behind(book, thing)


def lets_nothing_behind(book, numbers):
    for number, giver, other, when in ways(book):
        if is_from(numbers[other], when) and not is_from(numbers[giver], when - 1):
            return False
    return True
