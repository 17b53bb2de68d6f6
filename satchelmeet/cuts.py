"""Cuts: marks that show how many alike letters can come at most."""

from satchelmeet.books import by_time, ways
from satchelmeet.plans import is_straight
from satchelmeet.wholes import is_within


def cut_worth(book, loads, wants, thing):
    if not has_cut_form(book, loads, wants, thing):
        return None
    begun, come, marks = thing
    if not are_loads_open(book, loads, begun, marks) or not goes_on_in(book, marks):
        return None
    if not come_where_in(book, wants, come, marks) or not come_at_once(loads, wants, begun, come):
        return None
    worth = sum([load[2] for load, truth in zip(loads, begun) if not truth])
    worth += sum([want[2] for want, truth in zip(wants, come) if truth])
    return worth + bags_worth(book, marks) + meetings_worth(book, marks)


def has_cut_form(book, loads, wants, thing):
    if not isinstance(thing, tuple) or len(thing) != 3:
        return False
    begun, come, marks = thing
    if not are_truths(begun, len(loads)) or not are_truths(come, len(wants)):
        return False
    if not isinstance(marks, list) or len(marks) != len(book[1]) + 1:
        return False
    return all([are_marks(row, len(book[0])) for row in marks])


def are_truths(thing, size):
    return isinstance(thing, list) and len(thing) == size and all([isinstance(part, bool) for part in thing])


def are_marks(thing, size):
    return isinstance(thing, list) and len(thing) == size and all([is_within(mark, 0, 3) for mark in thing])


def is_open(mark):
    return mark >= 2


def is_in(mark):
    return mark in (1, 3)


def are_loads_open(book, loads, begun, marks):
    for (walker, since, many), truth in zip(loads, begun):
        if truth and not all([is_open(row[walker]) for row in marks[by_time(book, since):]]):
            return False
    return True


def goes_on_in(book, marks):
    """Whether each mark behind an open one of the same walker is in."""
    for stretch in range(len(book[1])):
        for mark, following in zip(marks[stretch], marks[stretch + 1]):
            if is_open(mark) and not is_in(following):
                return False
    return True


def come_where_in(book, wants, come, marks):
    for (walker, last, many), truth in zip(wants, come):
        # The stretches behind a meeting by last are those from 1 up to the number of such meetings.
        behind = marks[1:by_time(book, last) + 1]
        if not truth and any([is_in(row[walker]) for row in behind]):
            return False
    return True


def come_at_once(loads, wants, begun, come):
    for load, left in zip(loads, begun):
        for want, came in zip(wants, come):
            if left and not came and is_straight(load, want):
                return False
    return True


def bags_worth(book, marks):
    return sum([room for row in marks for mark, room in zip(row, book[0]) if mark == 1])


def meetings_worth(book, marks):
    worth = 0
    # What is open goes on in, so no meeting counts both ways.
    for number, giver, other, when in ways(book):
        if is_open(marks[number][giver]) and not is_in(marks[number + 1][other]):
            worth += book[1][number][3]
    return worth
