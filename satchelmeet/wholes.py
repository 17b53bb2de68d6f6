"""Whole numbers and times, and how numbers compare that may be None."""

LAST_TIME = 10 ** 9


def is_whole(thing):
    # Python counts truths among the ints; here they are none.
    return isinstance(thing, int) and not isinstance(thing, bool)


def is_within(thing, least, most):
    return is_whole(thing) and least <= thing <= most


def is_time(thing):
    return is_within(thing, 0, LAST_TIME)


def is_below(number, bound):
    return number is not None and number < bound


def is_upto(number, bound):
    return number is not None and number <= bound


def is_from(number, bound):
    return number is not None and number >= bound


def is_count(thing):
    return is_whole(thing) and thing >= 0


def are_counts(thing, size):
    """Whether it is a list of so many whole numbers from 0 on."""
    return isinstance(thing, list) and len(thing) == size and all([is_count(number) for number in thing])
