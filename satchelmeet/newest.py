"""Newest: what each one can know of each other one by a time, and when all have heard."""

from satchelmeet.leavings import leavings
from satchelmeet.walls import earliest_times


def newest(book, time):
    return [leavings(book, walker, time) for walker in range(len(book[0]))]


def all_hear(book, walker, time):
    times = earliest_times(book, walker, time)
    return None if None in times else max(times)
