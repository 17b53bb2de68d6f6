"""Runs: a rule of copying, carried out over a book."""

from satchelmeet.books import lone_row, other_at
from satchelmeet.errors import NoPass, NoRoom, NoRule, NotThere
from satchelmeet.rules import Nearer
from satchelmeet.trips import Trip


def run(book, letters, rule):
    if isinstance(rule, Nearer) and len(rule.past[0]) != len(book[0]):
        raise NoRule("the past has another number of walkers")
    trip = Trip(book, letters)
    tokens = [lone_row(book, letter[0], rule.at_first()) for letter in letters]
    for meeting in range(len(book[1])):
        for number, letter in enumerate(letters):
            giver = lone_holder(book, meeting, tokens[number])
            if giver is None:
                continue
            other = other_at(book, meeting, giver)
            share = rule.share(letter, giver, other, tokens[number][giver])
            if share is not None and is_done(trip, ("copy", meeting, number, giver)):
                tokens[number][other] = share
                tokens[number][giver] -= share
    times = [times_of(book, trip.having(number)) for number in range(len(letters))]
    return (trip.done(), times, tokens)


def lone_holder(book, meeting, row):
    """Who of the two at a meeting has a letter, by the row of its tokens, where just one has; else None."""
    one, other, when, many = book[1][meeting]
    if (row[one] is None) == (row[other] is None):
        return None
    return other if row[one] is None else one


def is_done(trip, deed):
    """Does a deed, where time, many and room let it be done."""
    try:
        trip.do(deed)
    except (NotThere, NoPass, NoRoom):
        return False
    return True


def times_of(book, having):
    since = dict(having)
    return [since.get(walker) for walker in range(len(book[0]))]
