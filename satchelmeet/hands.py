"""Hands: how early a letter can come by how many givings, and the chain with the fewest."""

from satchelmeet.books import lone_row, other_at, ways
from satchelmeet.letters import is_letter
from satchelmeet.wholes import is_below, is_upto


def giving_rows(book, sender, since):
    rows = [lone_row(book, sender, since)]
    following = row_after(book, rows[0])
    while following != rows[-1]:
        rows.append(following)
        following = row_after(book, following)
    return rows


def row_after(book, row):
    """The row of one giving more."""
    following = list(row)
    for number, giver, other, when in ways(book):
        # The giver's time is that of the row ahead: else one step would count several givings.
        if is_below(row[giver], when) and not is_upto(following[other], when):
            following[other] = when
    return following


def fewest(book, letter):
    # What is no letter may name walkers that there are not; it has no chain.
    if not is_letter(book, letter):
        return None
    sender, since, wish, last = letter
    rows = giving_rows(book, sender, since)
    for many, row in enumerate(rows):
        if is_upto(row[wish], last):
            return chain_back(book, rows[1:many + 1], wish)
    return None


def chain_back(book, rows, wish):
    """The chain of one giving for each of these rows, the last of them the first that has the wish in time."""
    chain = []
    walker = wish
    for row in rows[::-1]:
        number = meeting_at(book, walker, row[walker])
        chain.append(number)
        walker = other_at(book, number, walker)
    return chain[::-1]


def meeting_at(book, walker, time):
    """The number of the one meeting of a walker at a time."""
    for number, giver, other, when in ways(book):
        if giver == walker and when == time:
            return number
    return None
