"""What several test files share: books made by chance from a seed, and odd things."""

import random

from satchelmeet.books import made_book

TOP = 10 ** 9

# Of each kind something that is no whole number.
NO_WHOLES = [True, False, None, "", "1", b"1", [], [1], (), (1,), {}, {1: 1}, set(), object(), int]


def some_meetings(chance, walkers, most, times):
    """A list of meetings, either walker first, in no order, nobody twice at one time."""
    taken = set()
    meetings = []
    for trial in range(most):
        if walkers < 2:
            break
        one, other = chance.sample(range(walkers), 2)
        when = chance.randint(1, times)
        if (one, when) in taken or (other, when) in taken:
            continue
        taken.update([(one, when), (other, when)])
        meetings.append((one, other, when, chance.randint(1, 99)))
    return meetings


def some_books(seed, many, walkers, meetings, times):
    """Told books of up to so many walkers, meetings and times."""
    chance = random.Random(seed)
    books = []
    for trial in range(many):
        size = chance.randint(1, walkers)
        rooms = [chance.randint(0, 99) for walker in range(size)]
        books.append(made_book(rooms, some_meetings(chance, size, chance.randint(0, meetings), times)))
    return books
