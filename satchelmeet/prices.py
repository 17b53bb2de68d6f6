"""Prices: numbers that show how few givings can serve several wishes."""

from satchelmeet.books import by_time, ways
from satchelmeet.wholes import are_counts


def price_told(book, sender, since, wishes, thing):
    if not has_prices_form(book, wishes, thing):
        return None
    if not is_nothing_free(thing) or not are_wishes_free(book, wishes, thing):
        return None
    if not is_keeping_free(thing) or not is_giving_one_more(book, thing):
        return None
    return thing[by_time(book, since)][sender][all_of(wishes)]


def all_of(wishes):
    """The set that has all wishes."""
    return (1 << len(wishes)) - 1


def without_wish(some, number):
    return some - (some & (1 << number))


def splits(some):
    """All two sets that share no wish and are together just this one."""
    return [(part, some - part) for part in range(some + 1) if part & some == part]


def has_prices_form(book, wishes, thing):
    if not isinstance(thing, list) or len(thing) != len(book[1]) + 1:
        return False
    return all([is_stretch(book, wishes, stretch) for stretch in thing])


def is_stretch(book, wishes, thing):
    if not isinstance(thing, list) or len(thing) != len(book[0]):
        return False
    return all([are_counts(row, all_of(wishes) + 1) for row in thing])


def is_nothing_free(prices):
    return all([row[0] == 0 for stretch in prices for row in stretch])


def are_wishes_free(book, wishes, prices):
    """Whether who has the letter in time for its own wish pays nothing for that."""
    for number, (walker, last) in enumerate(wishes):
        for stretch in prices[:by_time(book, last) + 1]:
            row = stretch[walker]
            if any([price > row[without_wish(some, number)] for some, price in enumerate(row)]):
                return False
    return True


def is_keeping_free(prices):
    for stretch, following in zip(prices, prices[1:]):
        for row, later in zip(stretch, following):
            if any([price > kept for price, kept in zip(row, later)]):
                return False
    return True


def is_giving_one_more(book, prices):
    for number, giver, other, when in ways(book):
        kept = prices[number + 1][giver]
        given = prices[number + 1][other]
        for some, price in enumerate(prices[number][giver]):
            if any([price > 1 + kept[part] + given[rest] for part, rest in splits(some)]):
                return False
    return True
