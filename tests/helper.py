"""What several test files share: books made by chance from a seed, odd things, and chains found the slow way."""

import itertools
import random

from satchelmeet.books import made_book

TOP = 10 ** 9

# Of each kind something that is no whole number.
NO_WHOLES = [True, False, None, "", "1", b"1", [], [1], (), (1,), {}, {1: 1}, set(), len, int]


def some_meetings(chance, walkers, most, times):
    """A list of meetings, either walker first, in no order, nobody twice at one time."""
    taken = set()
    meetings = []
    for trial in range(most):
        if walkers < 2:
            break
        one, other = chance.sample(range(walkers), 2)
        when = chance.randint(1, times)
        if (one, when) in taken or (other, when) in taken:
            continue
        taken.update([(one, when), (other, when)])
        meetings.append((one, other, when, chance.randint(1, 99)))
    return meetings


def some_books(seed, many, walkers, meetings, times):
    """Told books of up to so many walkers, meetings and times."""
    chance = random.Random(seed)
    books = []
    for trial in range(many):
        size = chance.randint(1, walkers)
        rooms = [chance.randint(0, 99) for walker in range(size)]
        books.append(made_book(rooms, some_meetings(chance, size, chance.randint(0, meetings), times)))
    return books


def some_letters(seed, book, many, times):
    """Letters of a book, their times from 0 to so much."""
    chance = random.Random(seed)
    walkers = range(len(book[0]))
    letters = []
    for trial in range(many):
        since, last = chance.randint(0, times), chance.randint(0, times)
        letters.append((chance.choice(walkers), since, chance.choice(walkers), last))
    return letters


def follow(book, letter, numbers):
    """Word by word as told: who has the letter at last, and since when; None where it is given by none."""
    holder, time = letter[0], letter[1]
    for number in numbers:
        one, other, when, many = book[1][number]
        if holder not in (one, other) or time >= when:
            return None
        holder, time = {one: other, other: one}[holder], when
    return holder, time


def all_chains(book, letter):
    """All chains of a letter, by a walk through all rows of meetings: for small books only."""
    found = []
    numbers = range(len(book[1]))
    for size in range(len(book[1]) + 1):
        for row in itertools.combinations(numbers, size):
            end = follow(book, letter, row)
            if end is not None and end[0] == letter[2] and end[1] <= letter[3]:
                found.append(list(row))
    return found


def end_of(book, letter, chain):
    return follow(book, letter, chain)[1]


def full_books(seed, many):
    """Books of twelve walkers and sixty meetings, many of them at one time."""
    chance = random.Random(seed)
    books = []
    while len(books) < many:
        meetings = some_meetings(chance, 12, 200, chance.choice([12, 20, 60, TOP]))[:60]
        if len(meetings) == 60:
            books.append(made_book([chance.randint(0, 99) for walker in range(12)], meetings))
    return books


def odd_rows(row):
    """What is near a list of wholes and Nones, but none for as many walkers."""
    odd = [tuple(row), row + [None], row + [0], row[:-1], {place: row[place] for place in range(len(row))}, str(row)]
    odd += [thing for thing in NO_WHOLES if thing != [1]] + [0, 5, -1, 10 ** 30]
    for place in range(len(row)):
        for thing in NO_WHOLES:
            if thing is not None:
                odd.append(row[:place] + [thing] + row[place + 1:])
    return odd


def some_parts(chance, book, times, most, many):
    """Loads or wants: up to so many, with times and manys up to so much."""
    walkers = range(len(book[0]))
    size = chance.randint(0, most)
    return [(chance.choice(walkers), chance.randint(0, times), chance.randint(1, many)) for part in range(size)]


def small_sacks(seed, many):
    """Small books with small rooms and manys, each with a few loads and wants."""
    chance = random.Random(seed)
    told = []
    for rooms, meetings in some_books(seed, many, 4, 6, 6):
        rooms = [chance.choice([0, 1, 2, 3, 99]) for room in rooms]
        meetings = [row[:3] + (chance.choice([1, 1, 2, 3, 99]),) for row in meetings]
        book = made_book(rooms, meetings)
        told.append((book, some_parts(chance, book, 6, 3, 4), some_parts(chance, book, 6, 3, 4)))
    return told


def variants(thing, change):
    """All that comes of a thing of lists and tuples when one part of it, or it itself, is changed."""
    told = list(change(thing))
    if isinstance(thing, (list, tuple)):
        kind = type(thing)
        for place, part in enumerate(thing):
            for changed in variants(part, change):
                told.append(kind(list(thing[:place]) + [changed] + list(thing[place + 1:])))
    return told


def other_kinds(part):
    """What is of another kind than the part, or, of a list or tuple, one part less or more."""
    told = [None, "", "1", b"1", {}, {0: 0}, set(), len, int, object()]
    if isinstance(part, list):
        told += [tuple(part), dict(enumerate(part)), str(part), True, 0, part[:-1] if part else 0, part + part[:1] + [None]]
        told += [part + part[-1:]] if part else []
    elif isinstance(part, tuple):
        told += [list(part), dict(enumerate(part)), str(part), True, 0, part[:-1], part + part[:1], ()]
    elif isinstance(part, bool):
        told += [int(part), str(part), [part], (part,), 2, -1]
    else:
        told += [True, False, str(part), [part], (part,), [], ()]
    return told


def other_numbers(part):
    """Of a whole number, some beside it; of all else nothing."""
    if isinstance(part, bool) or not isinstance(part, int):
        return []
    return [part - 1, part + 1, -1, 0, 1, 2, 3, 4, -10 ** 30, 10 ** 30]


def some_wishes(chance, book, times, most=4):
    """One to so many wishes of unlike walkers."""
    walkers = range(len(book[0]))
    wished = chance.sample(walkers, chance.randint(1, min(most, len(walkers))))
    return [(walker, chance.choice([chance.randint(0, times), times])) for walker in wished]


def price_bounds(book, wishes, prices, stretch, walker, some):
    """By the words, what a price must not be above: a dict, the name of each condition and its number."""
    bounds = {}
    if some == 0:
        bounds["empty"] = 0
    for number, (wished, last) in enumerate(wishes):
        in_time = stretch <= len([meeting for meeting in book[1] if meeting[2] <= last])
        if wished == walker and in_time and some // 2 ** number % 2 == 1:
            bounds["wish", number] = prices[stretch][walker][some - 2 ** number]
    if stretch < len(book[1]):
        bounds["next"] = prices[stretch + 1][walker][some]
        one, other, when, many = book[1][stretch]
        if walker in (one, other):
            taker = {one: other, other: one}[walker]
            for part, rest in itertools.product(range(some + 1), repeat=2):
                if part & rest == 0 and part | rest == some:
                    price = 1 + prices[stretch + 1][walker][part] + prices[stretch + 1][taker][rest]
                    bounds["give", walker == one, part, rest] = price
    return bounds


def some_prices(chance, book, wishes, most):
    """Prices, each as great as the others let it be, and at most a number that is drawn for it."""
    sets = range(2 ** len(wishes))
    prices = [[[0 for some in sets] for room in book[0]] for stretch in range(len(book[1]) + 1)]
    for stretch in reversed(range(len(prices))):
        for walker in range(len(book[0])):
            for some in sets:
                drawn = chance.choice([most, most, most, chance.randint(0, most)])
                bounds = price_bounds(book, wishes, prices, stretch, walker, some)
                prices[stretch][walker][some] = min([drawn] + list(bounds.values()))
    return prices


def fewest_givings(book, sender, since, wishes):
    """The least number of givings of a tree that serves, by all sets of walkers that can have it; or None."""
    if any(walker == sender and last < since for walker, last in wishes):
        return None
    least = {frozenset([sender]): 0}
    for one, other, when, many in book[1] + ((None, None, TOP + 1, 0),):
        ahead = [walker for walker, last in wishes if last < when]
        least = {has: cost for has, cost in least.items() if has.issuperset(ahead)}
        if when > since:
            for has, cost in list(least.items()):
                if one in has or other in has:
                    more = has | {one, other}
                    least[more] = min(least.get(more, cost + 1), cost + 1)
    return min(least.values(), default=None)
