"""Spreads: as few givings as can be by which one letter comes to several wishes."""

from satchelmeet.books import by_time, other_at
from satchelmeet.errors import TooMany
from satchelmeet.prices import all_of, splits, without_wish
from satchelmeet.walls import earliest, earliest_times

MOST_SPREAD_WALKERS = 8
MOST_SPREAD_MEETINGS = 24


def spread(book, sender, since, wishes):
    if len(book[0]) > MOST_SPREAD_WALKERS or len(book[1]) > MOST_SPREAD_MEETINGS:
        raise TooMany("a letter is spread in a book of at most eight walkers and twenty-four meetings")
    for number, (walker, last) in enumerate(wishes):
        if earliest(book, (sender, since, walker, last)) is None:
            return ("never", number, earliest_times(book, sender, since))
    prices = least_prices(book, wishes)
    return ("tree", tree_by(book, sender, since, wishes, prices), prices)


def least_prices(book, wishes):
    """For each stretch and walker the fewest givings from there on, for each set of wishes."""
    prices = []
    # A price counts the givings still to come, so the stretches are priced from the last one back.
    for stretch in reversed(range(len(book[1]) + 1)):
        following = prices[-1] if prices else None
        prices.append([row_of(book, wishes, stretch, walker, following) for walker in range(len(book[0]))])
    return prices[::-1]


def row_of(book, wishes, stretch, walker, following):
    row = []
    for some in range(all_of(wishes) + 1):
        left = still_open(book, wishes, stretch, walker, some)
        # Where less is left than the set has, that is a lesser set, priced already.
        row.append(least(book, stretch, walker, some, following) if left == some else row[left])
    return row


def still_open(book, wishes, stretch, walker, some):
    """The wishes of a set that are not fulfilled when this walker has the letter on this stretch."""
    left = some
    for number, (wished, last) in enumerate(wishes):
        if wished == walker and stretch <= by_time(book, last):
            left = without_wish(left, number)
    return left


def least(book, stretch, walker, some, following):
    if some == 0:
        return 0
    if following is None:
        # More than any tree has: from here there is no way.
        return len(book[1]) + 1
    price = following[walker][some]
    if walker in book[1][stretch][:2]:
        other = other_at(book, stretch, walker)
        price = min([price] + [1 + following[walker][part] + following[other][rest] for part, rest in splits(some)])
    return price


def tree_by(book, sender, since, wishes, prices):
    """The tree that costs just what the prices tell."""
    givings = []
    parts = [(by_time(book, since), sender, all_of(wishes))]
    while parts:
        stretch, walker, some = parts.pop()
        some = still_open(book, wishes, stretch, walker, some)
        if some == 0:
            continue
        following = prices[stretch + 1]
        if prices[stretch][walker][some] == following[walker][some]:
            parts.append((stretch + 1, walker, some))
            continue
        # Two branches never give at one meeting: by one giving less the same would be served.
        other = other_at(book, stretch, walker)
        part, rest = best_split(following[walker], following[other], some)
        givings.append((stretch, walker))
        parts.append((stretch + 1, walker, part))
        parts.append((stretch + 1, other, rest))
    return sorted(givings)


def best_split(kept, given, some):
    """What of a set the giver and what the other one serves at the least price."""
    return min(splits(some), key=lambda pair: kept[pair[0]] + given[pair[1]])
