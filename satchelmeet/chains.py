"""Chains: the rows of meetings by which a letter comes to its wish."""

from satchelmeet.books import is_meeting_number, other_at
from satchelmeet.letters import is_letter


def is_chain(book, letter, thing):
    if not is_letter(book, letter) or not isinstance(thing, list):
        return False
    sender, since, wish, last = letter
    holder = sender
    time = since
    # Meetings are numbered by their times, so rising times have rising numbers.
    for number in thing:
        if not is_meeting_number(book, number):
            return False
        one, other, when, many = book[1][number]
        if holder not in (one, other) or when <= time:
            return False
        holder = other_at(book, number, holder)
        time = when
    return holder == wish and time <= last


def arrival(book, letter, chain):
    sender, since, wish, last = letter
    return book[1][chain[-1]][2] if chain else since


def walkers_along(book, letter, chain):
    walkers = [letter[0]]
    for number in chain:
        walkers.append(other_at(book, number, walkers[-1]))
    return walkers
