"""Missed meetings: which letters hang on a meeting, and what it takes to stop a letter."""

from satchelmeet.books import by_time, other_at, ways
from satchelmeet.changes import without
from satchelmeet.streams import Stream
from satchelmeet.walls import earliest, earliest_times


def lost(book, letters, meeting):
    rest = without(book, meeting)
    return [number for number, letter in enumerate(letters) if is_lost(book, rest, letter)]


def is_lost(book, rest, letter):
    return earliest(book, letter) is not None and earliest(rest, letter) is None


def stands(book, letter):
    sender, since, wish, last = letter
    chain = earliest(book, letter)
    if chain is None:
        return ("none", earliest_times(book, sender, since))
    if sender == wish:
        return ("two", [], [])
    # A meeting that all chains need is in this one, too.
    for number in chain:
        rest = without(book, number)
        if earliest(rest, letter) is None:
            return ("one", number, earliest_times(rest, sender, since))
    one, other = two_chains(book, letter)
    return ("two", one, other)


def two_chains(book, letter):
    """Of a letter to another walker that hangs on no meeting: two chains that share none."""
    givers = givers_sent(book, letter)
    one = chain_by(book, letter, givers)
    rest = [None if number in one else giver for number, giver in enumerate(givers)]
    return (one, chain_by(book, letter, rest))


def givers_sent(book, letter):
    """For each meeting who gives there, or None, so that two chains go by these givings or more."""
    sender, since, wish, last = letter
    walkers = len(book[0])
    # A point for each walker ahead of each meeting, and behind the last one.
    stream = Stream(walkers * (len(book[1]) + 1))
    ties = []
    for number, giver, other, when in ways(book):
        ties.append(stream.tie(number * walkers + giver, number * walkers + walkers + other, 1))
    for point in range(walkers * len(book[1])):
        stream.tie(point, point + walkers, 2)
    stream.send(by_time(book, since) * walkers + sender, by_time(book, last) * walkers + wish)
    sent = [stream.sent(tie) for tie in ties]
    return [giver_of(meeting, sent[2 * number:2 * number + 2]) for number, meeting in enumerate(book[1])]


def giver_of(meeting, sent):
    """Who gives at a meeting; where both do, each may as well keep what it has."""
    one, other, when, many = meeting
    there, back = sent
    if there == back:
        return None
    return one if there > back else other


def chain_by(book, letter, givers):
    """The meetings by which the letter goes where each giver gives it that has it."""
    sender, since, wish, last = letter
    holder = sender
    chain = []
    for number in range(by_time(book, since), by_time(book, last)):
        if givers[number] == holder:
            chain.append(number)
            holder = other_at(book, number, holder)
    return chain
