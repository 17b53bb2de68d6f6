"""Claims: what can be said of a book, so that a paper shows it."""

from satchelmeet.books import MOST_MANY, is_book, is_meeting_number, is_walker
from satchelmeet.letters import is_letter
from satchelmeet.wholes import is_time, is_within

MOST_SACKS = 8
MOST_WISHES = 4
MOST_CLAIMED = 10 ** 4

PARTS = {
    "comes": ("letter",),
    "never": ("letter",),
    "two": ("letter",),
    "needs": ("letter", "meeting"),
    "earliest": ("letter", "time"),
    "latest": ("letter",),
    "fewest": ("letter",),
    "carries": ("sacks", "sacks", "many"),
    "no more": ("sacks", "sacks", "many"),
    "served": ("walker", "time", "wishes", "many"),
    "no fewer": ("walker", "time", "wishes", "many"),
    "parts": ("book", "letter"),
    "apart": ("walker", "walker"),
}


def is_claim(book, thing):
    if not isinstance(thing, tuple) or not thing or not isinstance(thing[0], str):
        return False
    sorts = PARTS.get(thing[0])
    if sorts is None or len(thing) != len(sorts) + 1:
        return False
    return all([is_part(book, sort, part) for sort, part in zip(sorts, thing[1:])])


def is_part(book, sort, thing):
    if sort == "letter":
        return is_letter(book, thing)
    if sort == "meeting":
        return is_meeting_number(book, thing)
    if sort == "walker":
        return is_walker(book, thing)
    if sort == "time":
        return is_time(thing)
    if sort == "many":
        return is_within(thing, 0, MOST_CLAIMED)
    if sort == "sacks":
        return are_sacks(book, thing)
    if sort == "wishes":
        return are_wishes(book, thing)
    return is_book(thing) and len(thing[0]) == len(book[0])


def are_sacks(book, thing):
    """Whether it is a list of loads; wants have the same form."""
    if not isinstance(thing, list) or len(thing) > MOST_SACKS:
        return False
    return all([is_sack(book, part) for part in thing])


def is_sack(book, thing):
    if not isinstance(thing, tuple) or len(thing) != 3:
        return False
    walker, time, many = thing
    return is_walker(book, walker) and is_time(time) and is_within(many, 1, MOST_MANY)


def are_wishes(book, thing):
    if not isinstance(thing, list) or not 1 <= len(thing) <= MOST_WISHES:
        return False
    if not all([is_wish(book, part) for part in thing]):
        return False
    return len({walker for walker, last in thing}) == len(thing)


def is_wish(book, thing):
    if not isinstance(thing, tuple) or len(thing) != 2:
        return False
    walker, last = thing
    return is_walker(book, walker) and is_time(last)
