"""Letters: who sends one, since when, to whom, and by when it must have come."""

from satchelmeet.books import is_walker
from satchelmeet.wholes import is_time


def is_letter(book, thing):
    if not isinstance(thing, tuple) or len(thing) != 4:
        return False
    sender, since, wish, last = thing
    return is_walker(book, sender) and is_time(since) and is_walker(book, wish) and is_time(last)
