"""Papers: whether what is handed in shows a claim; nothing is made here, whoever made the paper."""

from satchelmeet.books import is_row, is_walker, ways
from satchelmeet.chains import arrival, is_chain
from satchelmeet.changes import without
from satchelmeet.claims import is_claim
from satchelmeet.cuts import cut_worth
from satchelmeet.errors import NoClaim
from satchelmeet.leavings import lets_nothing_behind
from satchelmeet.plans import plan_worth
from satchelmeet.prices import price_told
from satchelmeet.trees import tree_serves
from satchelmeet.walls import bars, lets_nothing_ahead
from satchelmeet.wholes import is_below, is_from, is_upto


def is_pair(paper):
    return isinstance(paper, tuple) and len(paper) == 2


def takes_comes(book, parts, paper):
    return is_chain(book, parts[0], paper)


def takes_never(book, parts, paper):
    return bars(book, parts[0], paper)


def takes_two(book, parts, paper):
    if not is_pair(paper):
        return False
    one, other = paper
    if not is_chain(book, parts[0], one) or not is_chain(book, parts[0], other):
        return False
    return not any([number in other for number in one])


def takes_needs(book, parts, paper):
    letter, meeting = parts
    return bars(without(book, meeting), letter, paper)


def takes_earliest(book, parts, paper):
    letter, when = parts
    sender, since, wish, last = letter
    if not is_pair(paper):
        return False
    chain, times = paper
    if not is_chain(book, letter, chain) or arrival(book, letter, chain) != when or not is_row(book, times):
        return False
    return is_upto(times[sender], since) and not is_below(times[wish], when) and lets_nothing_ahead(book, times)


def takes_latest(book, parts, paper):
    sender, since, wish, last = parts[0]
    if not is_pair(paper):
        return False
    chain, numbers = paper
    if not is_chain(book, parts[0], chain) or not is_row(book, numbers):
        return False
    if not is_from(numbers[wish], last) or is_from(numbers[sender], since + 1):
        return False
    return lets_nothing_behind(book, numbers)


def takes_fewest(book, parts, paper):
    sender, since, wish, last = parts[0]
    if not is_pair(paper):
        return False
    chain, rows = paper
    if not is_chain(book, parts[0], chain) or not isinstance(rows, list) or len(rows) != len(chain):
        return False
    if not all([is_row(book, row) and not is_upto(row[wish], last) for row in rows]):
        return False
    # Without rows there is nothing to show: no chain is shorter than [].
    if rows and not is_upto(rows[0][sender], since):
        return False
    return all([is_one_giving_on(book, row, following) for row, following in zip(rows, rows[1:])])


def is_one_giving_on(book, row, following):
    """Whether the following row has all that one giving can bring about, and what the row has."""
    for number, later in zip(row, following):
        if number is not None and not is_upto(later, number):
            return False
    for number, giver, other, when in ways(book):
        if is_below(row[giver], when) and not is_upto(following[other], when):
            return False
    return True


def takes_carries(book, parts, paper):
    loads, wants, many = parts
    return plan_worth(book, loads, wants, paper) == many


def takes_no_more(book, parts, paper):
    loads, wants, many = parts
    return cut_worth(book, loads, wants, paper) == many


def takes_served(book, parts, paper):
    sender, since, wishes, many = parts
    return tree_serves(book, sender, since, wishes, paper) and len(paper) == many


def takes_no_fewer(book, parts, paper):
    sender, since, wishes, many = parts
    return is_from(price_told(book, sender, since, wishes, paper), many)


def takes_parts(book, parts, paper):
    other, letter = parts
    if not is_pair(paper):
        return False
    chain, wall = paper
    return is_chain(book, letter, chain) and bars(other, letter, wall)


def takes_apart(book, parts, paper):
    sender, wish = parts
    if not isinstance(paper, list) or not all([is_walker(book, walker) for walker in paper]):
        return False
    if not all([walker < later for walker, later in zip(paper, paper[1:])]):
        return False
    if sender not in paper or wish in paper:
        return False
    return all([(one in paper) == (other in paper) for one, other, when, many in book[1]])


TAKERS = {
    "comes": takes_comes,
    "never": takes_never,
    "two": takes_two,
    "needs": takes_needs,
    "earliest": takes_earliest,
    "latest": takes_latest,
    "fewest": takes_fewest,
    "carries": takes_carries,
    "no more": takes_no_more,
    "served": takes_served,
    "no fewer": takes_no_fewer,
    "parts": takes_parts,
    "apart": takes_apart,
}


def takes(book, claim, paper):
    if not is_claim(book, claim):
        raise NoClaim("this is no claim of the book")
    taker = TAKERS[claim[0]]
    return taker(book, claim[1:], paper)
