"""Receipts: when it can be known that a letter came, and that this is known, by turns."""

from satchelmeet.chains import arrival
from satchelmeet.walls import earliest
from satchelmeet.wholes import LAST_TIME


def receipts(book, letter, most):
    told = []
    asked = letter
    while len(told) < most:
        chain = earliest(book, asked)
        if chain is None:
            break
        sender, since, wish, last = asked
        time = arrival(book, asked, chain)
        told.append((wish, time, chain))
        asked = (wish, time, sender, LAST_TIME)
    return told
