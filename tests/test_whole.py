"""The promise over the whole program: papers that are told are taken, and whatever is taken is so."""

import functools
import random
import unittest

from satchelmeet.alike import parting, thinned
from satchelmeet.books import made_book
from satchelmeet.chains import arrival
from satchelmeet.changes import without
from satchelmeet.claims import is_claim
from satchelmeet.cuts import cut_worth
from satchelmeet.days import hangs_with
from satchelmeet.hands import fewest, giving_rows
from satchelmeet.leavings import latest, leavings
from satchelmeet.missed import lost, stands
from satchelmeet.papers import takes
from satchelmeet.plans import plan_worth
from satchelmeet.rules import AllMet, Halves, Nearer
from satchelmeet.runs import run
from satchelmeet.sacks import carried
from satchelmeet.spreads import spread
from satchelmeet.trips import Trip
from satchelmeet.walls import earliest, earliest_times
from tests.helper import (all_chains, end_of, fewest_givings, full_books, small_sacks, some_books, some_letters, some_meetings,
                          some_parts, some_wishes, variants)
from tests.test_sacks import most_by_trying


def of_letter(book, letter):
    """Claims of a letter, each with the paper that is told for it."""
    sender, since, wish, last = letter
    chain, times = earliest(book, letter), earliest_times(book, sender, since)
    if chain is None:
        yield ("never", letter), times
    else:
        yield ("comes", letter), chain
        yield ("earliest", letter, arrival(book, letter, chain)), (chain, times)
        short = fewest(book, letter)
        yield ("fewest", letter), (short, giving_rows(book, sender, since)[:len(short)])
    late = latest(book, letter)
    if late is not None:
        yield ("latest", (sender, late[0], wish, last)), (late[1], leavings(book, wish, last))
    told = stands(book, letter)
    if told[0] == "two":
        yield ("two", letter), told[1:]
    elif told[0] == "one":
        yield ("needs", letter, told[1]), told[2]
    else:
        yield ("never", letter), told[1]
    for meeting in range(len(book[1])):
        if lost(book, [letter], meeting):
            yield ("needs", letter, meeting), earliest_times(without(book, meeting), sender, since)
    if wish not in hangs_with(book, sender):
        yield ("apart", sender, wish), hangs_with(book, sender)


def of_sacks(book, loads, wants):
    plan, cut = carried(book, loads, wants)
    many = plan_worth(book, loads, wants, plan)
    yield ("carries", loads, wants, many), plan
    yield ("no more", loads, wants, many), cut


def of_wishes(book, sender, since, wishes):
    word, tree, prices = spread(book, sender, since, wishes)
    if word == "never":
        yield ("never", (sender, since) + wishes[tree]), prices
    else:
        yield ("served", sender, since, wishes, len(tree)), tree
        yield ("no fewer", sender, since, wishes, len(tree)), prices


def of_two(book, other):
    """Of two books: which of them is the first, with the claim and the paper."""
    letter = parting(book, other)
    if letter is not None:
        first, second = (book, other) if earliest(book, letter) is not None else (other, book)
        yield first, ("parts", second, letter), (earliest(first, letter), earliest_times(second, letter[0], 0))


@functools.lru_cache(None)
def chains_of(book, letter):
    return all_chains(book, letter)


@functools.lru_cache(None)
def most_of(book, loads, wants):
    return most_by_trying(book, list(loads), list(wants))


def hang_together(book, one, other):
    found = {one}
    for step in book[0]:
        found |= {walker for meeting in book[1] if found & set(meeting[:2]) for walker in meeting[:2]}
    return other in found


def is_so(book, claim, paper):
    """Whether what a claim and its paper are for is so, by going through all there is: for tiny books only."""
    word = claim[0]
    if word in ("comes", "never", "two", "needs", "earliest", "latest", "fewest"):
        letter = claim[1]
        chains = chains_of(book, letter)
        if word == "comes":
            return bool(chains)
        if word == "never":
            return not chains
        if word == "two":
            return any(not set(one) & set(other) for one in chains for other in chains)
        if word == "needs":
            return all(claim[2] in chain for chain in chains)
        if word == "earliest":
            return min(end_of(book, letter, chain) for chain in chains) == claim[2]
        if word == "latest":
            sender, since, wish, last = letter
            later = [meeting[2] - 1 for meeting in book[1]] + [last]
            return bool(chains) and not any(chains_of(book, (sender, time, wish, last)) for time in later if time > since)
        return min(len(chain) for chain in chains) == len(paper[0])
    if word in ("carries", "no more"):
        most = most_of(book, tuple(claim[1]), tuple(claim[2]))
        return claim[3] <= most if word == "carries" else claim[3] >= most
    if word in ("served", "no fewer"):
        least = fewest_givings(book, claim[1], claim[2], claim[3])
        if word == "served":
            return least is not None and least <= claim[4]
        return least is None or least >= claim[4]
    if word == "parts":
        return bool(chains_of(book, claim[2])) and not chains_of(claim[1], claim[2])
    return not hang_together(book, claim[1], claim[2])


def near(part):
    """What stands near a number, or None; and a list with a part less or one twice."""
    if isinstance(part, bool):
        return [not part]
    if isinstance(part, int):
        return [part - 1, part + 1, part + 3, None]
    if part is None:
        return [0, 4, 9]
    if isinstance(part, list) and part:
        return [part[:-1], part[1:], part + part[-1:], part[::-1]]
    return []


class Taken(unittest.TestCase):
    """Each paper that is told is taken for its claim."""

    def taken(self, book, claim, paper):
        self.assertIs(is_claim(book, claim), True, claim)
        self.assertIs(takes(book, claim, paper), True, (book, claim, paper))

    def test_papers_of_letters(self):
        words = {}
        for number, book in enumerate(some_books(351, 150, 12, 60, 40) + full_books(352, 8)):
            for letter in some_letters(number, book, 12, 45):
                for claim, paper in of_letter(book, letter):
                    self.taken(book, claim, paper)
                    words[claim[0]] = words.get(claim[0], 0) + 1
        self.assertEqual(sorted(words), ["apart", "comes", "earliest", "fewest", "latest", "needs", "never", "two"])
        self.assertGreater(min(words.values()), 50)

    def test_a_chain_or_a_wall_never_both(self):
        for number, book in enumerate(some_books(353, 100, 12, 60, 40) + full_books(354, 4)):
            for letter in some_letters(number, book, 12, 45):
                chain, times = earliest(book, letter), earliest_times(book, letter[0], letter[1])
                self.assertIs(takes(book, ("never", letter), times), chain is None)
                self.assertIs(takes(book, ("comes", letter), chain), chain is not None)
                told = stands(book, letter)
                self.assertIs(told[0] == "none", chain is None)

    def test_papers_of_sacks(self):
        chance = random.Random(355)
        for book in some_books(356, 60, 12, 60, 40) + full_books(357, 4):
            for claim, paper in of_sacks(book, some_parts(chance, book, 45, 8, 99), some_parts(chance, book, 45, 8, 99)):
                self.taken(book, claim, paper)

    def test_a_plan_and_a_cut_come_to_the_same_number(self):
        for book, loads, wants in small_sacks(358, 100):
            plan, cut = carried(book, loads, wants)
            self.assertEqual(plan_worth(book, loads, wants, plan), cut_worth(book, loads, wants, cut))

    def test_papers_of_wishes(self):
        chance = random.Random(359)
        for book in some_books(360, 150, 8, 24, 16):
            sender, since = chance.randrange(len(book[0])), chance.randint(0, 4)
            for claim, paper in of_wishes(book, sender, since, some_wishes(chance, book, 18)):
                self.taken(book, claim, paper)

    def test_papers_of_two_books(self):
        found = []
        chance = random.Random(361)
        for book in some_books(362, 100, 12, 40, 20):
            walkers = len(book[0])
            other = made_book([0] * walkers, some_meetings(chance, walkers, len(book[1]), 20))
            for second in (other, made_book(list(book[0]), [row for row in book[1] if row[2] != 5]), thinned(book)[0]):
                told = list(of_two(book, second))
                for first, claim, paper in told:
                    self.taken(first, claim, paper)
                found.append(len(told))
            self.assertEqual(told, [])
        self.assertGreater(found.count(1), 50)

    def test_papers_of_thinned_books(self):
        for book in some_books(363, 60, 8, 24, 16):
            thin, letters = thinned(book)
            for meeting, letter in enumerate(letters):
                rest = without(thin, meeting)
                wall = earliest_times(rest, letter[0], letter[1])
                self.taken(thin, ("comes", letter), earliest(thin, letter))
                self.taken(thin, ("needs", letter, meeting), wall)
                self.taken(thin, ("parts", rest, letter), (earliest(thin, letter), wall))

    def test_what_a_rule_copies_a_trip_does_and_nothing_comes_ahead(self):
        for number, book in enumerate(some_books(364, 60, 12, 60, 40)):
            letters = some_letters(number, book, 8, 45)
            for rule in (AllMet(), Halves(8), Nearer(book)):
                deeds, times, tokens = run(book, letters, rule)
                trip = Trip(book, letters)
                for deed in deeds:
                    trip.do(deed)
                for letter, row in zip(letters, times):
                    least = earliest_times(book, letter[0], letter[1])
                    for walker, time in enumerate(row):
                        if time is not None:
                            self.assertIsNotNone(least[walker])
                            self.assertGreaterEqual(time, least[walker])


class IsSo(unittest.TestCase):
    """Whatever is taken is so: papers and claims that were changed a little, too."""

    def setUp(self):
        self.seen = {}

    def look(self, book, claim, paper):
        """All that is near a claim with its paper."""
        self.assertIs(takes(book, claim, paper), True)
        self.assertTrue(is_so(book, claim, paper), (book, claim, paper))
        for changed in variants(paper, near):
            self.look_at(book, claim, changed)
        for changed in variants(claim, near):
            if is_claim(book, changed):
                self.look_at(book, changed, paper)
                if isinstance(paper, tuple) and claim[0] == "earliest":
                    self.look_at(book, changed, (paper[0], [None if time is None else time + 1 for time in paper[1]]))

    def look_at(self, book, claim, paper):
        told = takes(book, claim, paper)
        self.assertIsInstance(told, bool)
        if told:
            self.assertTrue(is_so(book, claim, paper), (book, claim, paper))
        self.seen[claim[0], told] = self.seen.get((claim[0], told), 0) + 1

    def enough(self, *words):
        for word in words:
            self.assertGreater(self.seen.get((word, True), 0), 10, word)
            self.assertGreater(self.seen.get((word, False), 0), 10, word)

    def test_letters(self):
        for number, book in enumerate(some_books(371, 60, 4, 7, 8)):
            for letter in some_letters(number, book, 5, 9):
                for claim, paper in of_letter(book, letter):
                    self.look(book, claim, paper)
        self.enough("comes", "never", "two", "needs", "earliest", "latest", "fewest", "apart")

    def test_papers_of_one_claim_for_another(self):
        for number, book in enumerate(some_books(372, 40, 4, 7, 8)):
            told = [part for letter in some_letters(number, book, 4, 9) for part in of_letter(book, letter)]
            for claim, paper in told:
                for other, another in told:
                    self.look_at(book, claim, another)
                    if len(claim) == len(other) == 2:
                        self.look_at(book, (other[0],) + claim[1:], paper)
        self.enough("comes", "never", "two", "latest", "fewest")

    def test_sacks(self):
        for book, loads, wants in small_sacks(373, 30):
            loads, wants = [load[:2] + (1,) for load in loads[:2]], [want[:2] + (1,) for want in wants[:2]]
            for claim, paper in of_sacks(book, loads, wants):
                self.look(book, claim, paper)
        self.enough("carries", "no more")

    def test_wishes(self):
        chance = random.Random(374)
        for book in some_books(375, 40, 4, 6, 7):
            sender, since = chance.randrange(len(book[0])), chance.randint(0, 2)
            for claim, paper in of_wishes(book, sender, since, some_wishes(chance, book, 8, 2)):
                self.look(book, claim, paper)
        self.enough("served", "no fewer", "never")

    def test_two_books(self):
        chance = random.Random(376)
        for book in some_books(377, 40, 4, 6, 7):
            walkers = len(book[0])
            other = made_book([0] * walkers, some_meetings(chance, walkers, 6, 7))
            for first, claim, paper in of_two(book, other):
                self.look(first, claim, paper)
        self.enough("parts")


if __name__ == "__main__":
    unittest.main()
