import copy
import itertools
import random
import unittest

from satchelmeet.books import made_book
from satchelmeet.changes import without
from satchelmeet.cuts import cut_worth
from satchelmeet.errors import MeetError, NoClaim
from satchelmeet.hands import fewest, giving_rows
from satchelmeet.leavings import leavings
from satchelmeet.papers import takes
from satchelmeet.plans import plan_worth
from satchelmeet.prices import price_told
from satchelmeet.sacks import carried
from satchelmeet.spreads import least_prices, spread
from satchelmeet.trees import tree_serves
from satchelmeet.walls import earliest, earliest_times
from tests.helper import (NO_WHOLES, TOP, follow, full_books, other_kinds, other_numbers, some_books, some_letters,
                          variants)

HUGE = 10 ** 30


# The words of point 25 once more. What plans, cuts, trees and prices are is looked at beside their own modules.
def ways_of(book):
    for one, other, when, many in book[1]:
        yield one, other, when
        yield other, one, when


def chain_by_words(book, letter, thing):
    if type(thing) is not list or any(type(part) is not int or part not in range(len(book[1])) for part in thing):
        return False
    if any(one >= other for one, other in zip(thing, thing[1:])):
        return False
    end = follow(book, letter, thing)
    return end is not None and end[0] == letter[2] and end[1] <= letter[3]


def row_by_words(book, thing):
    return (type(thing) is list and len(thing) == len(book[0])
            and all(part is None or type(part) is int for part in thing))


def no_leak(book, times):
    return not any(times[giver] is not None and times[giver] < when and (times[other] is None or times[other] > when)
                   for giver, other, when in ways_of(book))


def wall_by_words(book, letter, thing):
    sender, since, wish, last = letter
    return (row_by_words(book, thing) and thing[sender] is not None and thing[sender] <= since
            and no_leak(book, thing) and (thing[wish] is None or thing[wish] > last))


def earliest_by_words(book, letter, when, paper):
    sender, since, wish, last = letter
    if type(paper) is not tuple or len(paper) != 2 or not chain_by_words(book, letter, paper[0]):
        return False
    chain, times = paper
    return (follow(book, letter, chain)[1] == when and row_by_words(book, times) and times[sender] is not None
            and times[sender] <= since and no_leak(book, times) and (times[wish] is None or times[wish] >= when))


def latest_by_words(book, letter, paper):
    sender, since, wish, last = letter
    if type(paper) is not tuple or len(paper) != 2 or not chain_by_words(book, letter, paper[0]):
        return False
    numbers = paper[1]
    if not row_by_words(book, numbers) or numbers[wish] is None or numbers[wish] < last:
        return False
    for giver, other, when in ways_of(book):
        if numbers[other] is not None and numbers[other] >= when:
            if numbers[giver] is None or numbers[giver] < when - 1:
                return False
    return numbers[sender] is None or numbers[sender] <= since


def fewest_by_words(book, letter, paper):
    sender, since, wish, last = letter
    if type(paper) is not tuple or len(paper) != 2 or not chain_by_words(book, letter, paper[0]):
        return False
    chain, rows = paper
    if type(rows) is not list or len(rows) != len(chain) or not all(row_by_words(book, row) for row in rows):
        return False
    if rows and (rows[0][sender] is None or rows[0][sender] > since):
        return False
    if any(row[wish] is not None and row[wish] <= last for row in rows):
        return False
    for row, following in zip(rows, rows[1:]):
        for number, later in zip(row, following):
            if number is not None and (later is None or later > number):
                return False
        for giver, other, when in ways_of(book):
            if row[giver] is not None and row[giver] < when and (following[other] is None or following[other] > when):
                return False
    return True


def apart_by_words(book, sender, wish, paper):
    if type(paper) is not list or any(type(part) is not int or part not in range(len(book[0])) for part in paper):
        return False
    if any(one >= other for one, other in zip(paper, paper[1:])) or sender not in paper or wish in paper:
        return False
    return all(len({one, other} & set(paper)) != 1 for one, other, when, many in book[1])


class Papers(unittest.TestCase):
    """What the tests of each kind of claim share."""

    def says(self, answer, claim, paper, book=None):
        book = book or self.book
        kept = repr((book, claim, paper))
        self.assertIs(takes(book, claim, paper), answer, (book, claim, paper))
        self.assertEqual(repr((book, claim, paper)), kept)

    def of_anything(self, claim, paper, by_words):
        """A paper that is taken, and all that is near it but of another kind, or with other numbers."""
        self.says(True, claim, paper)
        answers = []
        for thing in variants(paper, other_kinds) + variants(paper, other_numbers):
            try:
                answer = bool(by_words(thing))
            except (TypeError, IndexError, ValueError, AttributeError) as error:
                self.fail((error, thing))
            self.says(answer, claim, thing)
            answers.append(answer)
        self.assertIn(False, answers)
        for thing in NO_WHOLES + [0, 1, -1, HUGE, ("comes", 1), ((), ()), ([], None), (None, None)]:
            self.says(bool(by_words(thing)), claim, thing)


class NoClaims(unittest.TestCase):
    def test_ahead_of_all_else(self):
        self.assertTrue(issubclass(NoClaim, MeetError))
        book = made_book([0] * 3, [(0, 1, 3, 1), (1, 2, 5, 1)])
        letter = (0, 0, 2, 9)
        no_claims = NO_WHOLES + [
            0, -1, HUGE, "comes", ["comes", letter], ("comes",), ("come", letter), ("comes", letter, 0), ("comes", list(letter)),
            ("comes", (0, 0, 3, 9)), ("comes", (0, True, 2, 9)), ("needs", letter, 2), ("needs", letter, True), ("needs", letter),
            ("earliest", letter, TOP + 1), ("earliest", letter, None), ("carries", [], (), 0), ("carries", [], [], -1),
            ("no more", [], [], 10 ** 4 + 1), ("no more", [(0, 0, 0)], [], 0), ("served", 0, 0, [], 0),
            ("served", 3, 0, [(0, 0)], 0), ("no fewer", 0, 0, [(0, 0), (0, 1)], 0), ("parts", ([0] * 3, ()), letter),
            ("parts", made_book([0] * 2, []), letter), ("apart", 0, 3), ("apart", 0, None), ("apart", [0], 1), (letter,),
            (["comes"], letter), (("comes",), letter), (None, letter), ({}, letter)]
        papers = [[], [0, 1], [0, None, None], None, True, {}, "comes", ([0, 1], [0, 3, 5]), ([], []), 10 ** 30]
        for claim in no_claims:
            kept = repr(claim)
            for paper in papers:
                with self.assertRaises(NoClaim, msg=repr(claim)):
                    takes(book, claim, paper)
            self.assertEqual(repr(claim), kept)


class Comes(Papers):
    def setUp(self):
        self.book = made_book([0] * 3, [(0, 1, 3, 1), (1, 2, 5, 1), (0, 2, 8, 1)])

    def test_a_chain(self):
        claim = ("comes", (0, 0, 2, 8))
        self.says(True, claim, [0, 1])
        self.says(True, claim, [2])
        for paper in ([], [0], [1], [1, 0], [0, 0, 1], [0, 1, 2], (0, 1), [0, True], [False, 1], [3], [-1], [0, -2], None, 2):
            self.says(False, claim, paper)
        self.says(True, ("comes", (0, 2, 2, 5)), [0, 1])
        self.says(False, ("comes", (0, 3, 2, 5)), [0, 1])
        self.says(False, ("comes", (0, 2, 2, 4)), [0, 1])
        self.says(True, ("comes", (0, 4, 0, 4)), [])
        self.says(False, ("comes", (0, 4, 0, 3)), [])

    def test_of_anything(self):
        letter = (0, 0, 2, 8)
        self.of_anything(("comes", letter), [0, 1], lambda paper: chain_by_words(self.book, letter, paper))
        letter = (0, 0, 0, 8)
        self.of_anything(("comes", letter), [], lambda paper: chain_by_words(self.book, letter, paper))


class Never(Papers):
    def setUp(self):
        self.book = made_book([0] * 3, [(0, 1, 3, 1), (1, 2, 5, 1), (0, 2, 8, 1)])

    def test_a_wall(self):
        claim = ("never", (0, 0, 2, 4))
        self.says(True, claim, [0, 3, 5])
        self.says(True, claim, [-HUGE, 3, 5])
        for paper in ([1, 3, 5], [None, 3, 5], [0, 4, 5], [0, None, 5], [0, 3, 6], [0, 3, None], [0, 3, 4], (0, 3, 5), [0, 3],
                      [False, 3, 5], [0, 3, 5, None], None, []):
            self.says(False, claim, paper)
        self.says(False, ("never", (0, 0, 2, 5)), [0, 3, 5])
        self.says(True, ("never", (0, 8, 2, TOP)), [8, None, None])
        self.says(True, ("never", (0, 8, 0, 7)), [8, None, None])

    def test_of_anything(self):
        for letter, paper in (((0, 0, 2, 4), [0, 3, 5]), ((0, 8, 2, TOP), [8, None, None])):
            self.of_anything(("never", letter), paper, lambda paper: wall_by_words(self.book, letter, paper))

    def test_all_rows(self):
        numbers = [None, -1, 0, 2, 3, 4, 5, 8, 9]
        taken = 0
        for letter in ((0, 0, 2, 4), (0, 2, 2, 4), (0, 3, 2, 7), (1, 4, 0, 7), (0, 5, 0, 2)):
            for paper in itertools.product(numbers, repeat=3):
                answer = wall_by_words(self.book, letter, list(paper))
                self.says(answer, ("never", letter), list(paper))
                taken += answer
        self.assertGreater(taken, 20)


class Two(Papers):
    def setUp(self):
        self.book = made_book([0] * 4, [(0, 1, 2, 1), (0, 2, 3, 1), (1, 3, 4, 1), (2, 3, 5, 1), (0, 3, 6, 1)])
        self.letter = (0, 0, 3, 9)

    def by_words(self, paper):
        return (type(paper) is tuple and len(paper) == 2 and all(chain_by_words(self.book, self.letter, part) for part in paper)
                and not set(paper[0]) & set(paper[1]))

    def test_two_chains(self):
        claim = ("two", self.letter)
        for paper in (([0, 2], [1, 3]), ([1, 3], [0, 2]), ([4], [0, 2]), ([1, 3], [4])):
            self.says(True, claim, paper)
        for paper in (([0, 2], [0, 2]), ([4], [4]), ([0, 2], [0, 4]), ([0, 2], []), ([], []), ([0, 2],), ([0, 2], [1, 3], [4]),
                      [[0, 2], [1, 3]], ((0, 2), [1, 3]), ([0, 2], (1, 3)), ([0, 2], [3]), ([2], [1, 3]), ([0, 2], None), None):
            self.says(False, claim, paper)
        self.says(False, ("two", (0, 0, 3, 4)), ([0, 2], [1, 3]))
        self.says(False, ("two", (0, 0, 3, 4)), ([1, 3], [0, 2]))

    def test_chains_that_share_one_of_several(self):
        book = made_book([0] * 3, [(0, 1, 1, 1), (0, 1, 2, 1), (1, 2, 3, 1), (1, 2, 4, 1)])
        claim = ("two", (0, 0, 2, 9))
        for one in ([0, 2], [0, 3], [1, 2], [1, 3]):
            for other in ([0, 2], [0, 3], [1, 2], [1, 3]):
                self.says(not set(one) & set(other), claim, (one, other), book)

    def test_the_sender_is_the_wish(self):
        self.says(True, ("two", (1, 0, 1, 0)), ([], []))
        self.says(True, ("two", (1, 4, 1, 4)), ([], []))
        self.says(False, ("two", (1, 4, 1, 3)), ([], []))
        self.says(False, ("two", (1, 4, 2, 9)), ([], []))
        self.says(True, ("two", (0, 0, 0, 9)), ([], [0, 2, 4]))
        self.says(False, ("two", (0, 0, 0, 9)), ([0, 2, 4], [0, 2, 4]))

    def test_of_anything(self):
        self.of_anything(("two", self.letter), ([0, 2], [1, 3]), self.by_words)


class Needs(Papers):
    def setUp(self):
        self.book = made_book([0] * 3, [(0, 1, 3, 1), (1, 2, 5, 1), (0, 2, 8, 1)])

    def test_a_wall_without_it(self):
        letter = (0, 0, 2, 7)
        for meeting, wall in ((0, [0, 8 + 1, 8]), (0, [0, None, 8]), (1, [0, 3, 8])):
            self.says(True, ("needs", letter, meeting), wall)
        self.says(False, ("needs", letter, 2), [0, 3, 8])
        self.says(False, ("needs", letter, 1), [0, 4, 8])
        self.says(False, ("needs", letter, 1), [0, 3, 7])
        self.says(False, ("needs", letter, 1), [1, 3, 8])
        self.says(False, ("needs", letter, 1), [0, 3, 9])
        self.says(False, ("needs", letter, 1), (0, 3, 8))
        self.says(False, ("needs", letter, 1), [None, None, None])
        self.says(False, ("needs", (0, 0, 2, 8), 1), [0, 3, 8])

    def test_a_letter_without_chains(self):
        for meeting in range(3):
            self.says(True, ("needs", (0, 0, 2, 4), meeting), [0, 3, 5] if meeting != 0 else [0, 8, 8])
            self.says(True, ("needs", (0, 0, 2, 4), meeting), [0, 3, 5])

    def test_of_anything(self):
        letter = (0, 0, 2, 7)
        for meeting in (0, 1):
            rest = without(self.book, meeting)
            self.of_anything(("needs", letter, meeting), earliest_times(rest, 0, 0),
                             lambda paper: wall_by_words(rest, letter, paper))


class Earliest(Papers):
    def setUp(self):
        self.book = made_book([0] * 3, [(0, 1, 3, 1), (1, 2, 5, 1), (0, 2, 8, 1)])

    def test_a_chain_and_times(self):
        letter = (0, 1, 2, 9)
        claim = ("earliest", letter, 5)
        self.says(True, claim, ([0, 1], [1, 3, 5]))
        self.says(True, claim, ([0, 1], [0, 3, 5]))
        self.says(True, claim, ([0, 1], [-HUGE, 3, 5]))
        for times in ([2, 3, 5], [None, 3, 5], [1, 4, 5], [1, None, 5], [1, 3, 6], [1, 3, None], [1, 3, 4], [1, 3, 3], (1, 3, 5),
                      [1, 3], [1, 3, 5, 8], [True, 3, 5], None, []):
            self.says(False, claim, ([0, 1], times))
        for chain in ([2], [0], [], [1], (0, 1), [0, True], None, [0, 1, 2]):
            self.says(False, claim, (chain, [1, 3, 5]))
        for paper in ([[0, 1], [1, 3, 5]], ([0, 1],), ([0, 1], [1, 3, 5], None), ([1, 3, 5], [0, 1]), None):
            self.says(False, claim, paper)

    def test_when(self):
        letter = (0, 1, 2, 9)
        for when in (0, 4, 6, 8, 9, TOP):
            self.says(False, ("earliest", letter, when), ([0, 1], [1, 3, 5]))
        # A chain that arrives then, but another one arrives earlier.
        for times in ([1, 3, 8], [1, 3, 5], [1, None, 8], [1, 3, None], [1, 5, 8]):
            self.says(False, ("earliest", letter, 8), ([2], times))
        self.says(True, ("earliest", (0, 3, 2, 9), 8), ([2], [3, 9, 8]))
        self.says(True, ("earliest", (0, 3, 2, 9), 8), ([2], [3, None, 8]))

    def test_a_meeting_by_which_nothing_leaks(self):
        # Each other one's number at its bound, and one above it.
        book = made_book([0] * 3, [(0, 1, 3, 1), (0, 2, 4, 1)])
        claim = ("earliest", (0, 0, 2, 9), 4)
        for times, answer in (([0, 3, 4], True), ([0, 4, 4], False), ([0, 2, 4], True), ([0, 3, 5], False), ([0, 3, 3], False)):
            self.says(answer, claim, ([1], times), book)

    def test_last(self):
        self.says(True, ("earliest", (0, 1, 2, 5), 5), ([0, 1], [1, 3, 5]))
        self.says(False, ("earliest", (0, 1, 2, 4), 5), ([0, 1], [1, 3, 5]))

    def test_the_sender_is_the_wish(self):
        self.says(True, ("earliest", (0, 9, 0, 9), 9), ([], [9, None, None]))
        self.says(True, ("earliest", (0, 2, 0, 9), 2), ([], [2, 3, 5]))
        self.says(False, ("earliest", (0, 2, 0, 9), 2), ([], [1, 3, 5]))
        self.says(False, ("earliest", (0, 2, 0, 9), 3), ([], [2, 3, 5]))
        self.says(False, ("earliest", (0, 2, 0, 1), 2), ([], [2, 3, 5]))
        # It comes back at 8 by a chain, too, but that is not the earliest.
        self.says(False, ("earliest", (0, 2, 0, 9), 8), ([0, 1, 2], [2, 3, 5]))
        self.says(False, ("earliest", (0, 2, 0, 9), 8), ([0, 1, 2], [8, 3, 5]))

    def test_of_anything(self):
        letter = (0, 1, 2, 9)
        self.of_anything(("earliest", letter, 5), ([0, 1], [1, 3, 5]),
                         lambda paper: earliest_by_words(self.book, letter, 5, paper))

    def test_all_rows(self):
        numbers = [None, -1, 0, 1, 2, 3, 4, 5, 8, 9]
        taken = 0
        for letter, when, chain in (((0, 1, 2, 9), 5, [0, 1]), ((0, 1, 2, 9), 8, [2]), ((0, 3, 2, 8), 8, [2]),
                                    ((2, 4, 1, 5), 5, [1]), ((1, 3, 1, 3), 3, []), ((1, 9, 1, 9), 9, []),
                                    ((1, 3, 1, 9), 5, [1, 2])):
            for row in itertools.product(numbers, repeat=3):
                paper = (chain, list(row))
                answer = earliest_by_words(self.book, letter, when, paper)
                self.says(answer, ("earliest", letter, when), paper)
                taken += answer
        self.assertGreater(taken, 20)


class Latest(Papers):
    def setUp(self):
        self.book = made_book([0] * 3, [(0, 1, 3, 1), (1, 2, 5, 1), (0, 2, 8, 1)])

    def test_a_chain_and_numbers(self):
        claim = ("latest", (0, 2, 2, 7))
        self.says(True, claim, ([0, 1], [2, 4, 7]))
        self.says(True, claim, ([0, 1], [2, 4, 7 + 0]))
        self.says(True, claim, ([0, 1], [2, 5, 7]))
        for numbers in ([3, 4, 7], [None, 4, 7], [1, 4, 7], [2, 3, 7], [2, None, 7], [2, 4, 6], [2, 4, None], [2, 4, 8], (2, 4, 7),
                        [2, 4], [2, 4, 7, 7], None, [2, 4, True]):
            self.says(False, claim, ([0, 1], numbers))
        for chain in ([2], [0], [], [1], (0, 1), [0, True], None, [0, 1, 2]):
            self.says(False, claim, (chain, [2, 4, 7]))
        for paper in ([[0, 1], [2, 4, 7]], ([0, 1],), ([0, 1], [2, 4, 7], None), None):
            self.says(False, claim, paper)

    def test_not_the_latest(self):
        for since in (0, 1):
            for numbers in ([2, 4, 7], [1, 4, 7], [0, 4, 7], [None, 4, 7], [since, 4, 7]):
                self.says(False, ("latest", (0, since, 2, 7)), ([0, 1], numbers))
        self.says(False, ("latest", (0, 3, 2, 7)), ([0, 1], [2, 4, 7]))

    def test_bounds(self):
        self.says(True, ("latest", (0, 7, 2, 8)), ([2], [7, 4, 8]))
        self.says(True, ("latest", (0, 7, 2, 9)), ([2], [7, 4, 9]))
        self.says(False, ("latest", (0, 7, 2, 9)), ([2], [7, 4, 8]))
        self.says(True, ("latest", (0, 7, 2, 8)), ([2], [7, 4, 9]))
        self.says(False, ("latest", (0, 7, 2, 8)), ([2], [8, 4, 9]))
        self.says(False, ("latest", (0, 7, 2, 8)), ([2], [6, 4, 9]))
        self.says(True, ("latest", (0, 7, 2, 8)), ([2], [7, 4, HUGE]))

    def test_the_sender_is_the_wish(self):
        self.says(True, ("latest", (0, 9, 0, 9)), ([], [9, 4, 7]))
        self.says(True, ("latest", (0, 2, 0, 2)), ([], [2, None, None]))
        self.says(False, ("latest", (0, 2, 0, 3)), ([], [3, 2, None]))
        self.says(False, ("latest", (0, 2, 0, 3)), ([], [2, 2, None]))
        self.says(False, ("latest", (0, 3, 0, 2)), ([], [2, None, None]))

    def test_of_anything(self):
        letter = (0, 2, 2, 7)
        self.of_anything(("latest", letter), ([0, 1], [2, 4, 7]), lambda paper: latest_by_words(self.book, letter, paper))

    def test_all_rows(self):
        numbers = [None, -1, 0, 1, 2, 3, 4, 5, 7, 8, 9]
        taken = 0
        for letter, chain in (((0, 2, 2, 7), [0, 1]), ((0, 1, 2, 7), [0, 1]), ((0, 7, 2, 8), [2]), ((2, 4, 1, 5), [1]),
                              ((2, 4, 0, 8), [2]), ((2, 7, 0, 8), [2]), ((1, 3, 1, 3), []), ((1, 2, 1, 3), [])):
            for row in itertools.product(numbers, repeat=3):
                paper = (chain, list(row))
                answer = latest_by_words(self.book, letter, paper)
                self.says(answer, ("latest", letter), paper)
                taken += answer
        self.assertGreater(taken, 20)


class Fewest(Papers):
    def setUp(self):
        self.book = made_book([0] * 3, [(0, 1, 3, 1), (1, 2, 5, 1), (0, 2, 8, 1)])

    def test_a_chain_and_rows(self):
        claim = ("fewest", (0, 0, 2, 7))
        rows = [[0, None, None], [0, 3, 8]]
        self.says(True, claim, ([0, 1], rows))
        for chain in ([2], [0], [], (0, 1), None):
            self.says(False, claim, (chain, rows))
        for changed in (rows[:1], rows[1:], rows + rows[1:], [], tuple(rows), None, [rows[0], tuple(rows[1])], [tuple(rows[0]), rows[1]],
                        [rows[0], rows[1][:2]], [rows[0], None], [[0, None], rows[1]], rows[::-1]):
            self.says(False, claim, ([0, 1], changed))
        for paper in ([[0, 1], rows], ([0, 1],), ([0, 1], rows, None), None, []):
            self.says(False, claim, paper)

    def test_each_condition_alone(self):
        claim = ("fewest", (0, 0, 2, 7))
        for rows, answer in (
                ([[0, None, None], [0, 3, 8]], True), ([[-1, None, None], [-1, 3, 8]], True),
                # The sender in the first row.
                ([[1, None, None], [1, 3, 8]], False), ([[None, None, None], [0, 3, 8]], False),
                ([[None, None, None], [None, None, None]], False),
                # The next row's, where one row's is a number.
                ([[0, None, None], [-5, 3, 8]], True), ([[0, None, None], [1, 3, 8]], False), ([[0, None, None], [None, 3, 8]], False),
                ([[0, 9, None], [0, 3, 8]], True), ([[0, 2, None], [0, 2, 8]], False), ([[0, 2, 9], [0, 2, 5]], False),
                ([[0, None, 8], [0, 3, 8]], True), ([[0, None, 9], [0, 3, 8]], True), ([[0, None, 8], [0, 3, 9]], False),
                # The other's in the next row.
                ([[0, None, None], [0, 2, 8]], True), ([[0, None, None], [0, 4, 8]], False), ([[0, None, None], [0, None, 8]], False),
                ([[0, None, None], [0, 3, 9]], False), ([[0, None, None], [0, 3, None]], False),
                # The wish's in each row.
                ([[0, None, None], [0, 3, 7]], False), ([[0, None, 7], [0, 3, 7]], False), ([[0, None, 7], [0, 3, 8]], False)):
            self.says(answer, claim, ([0, 1], rows))

    def test_not_the_fewest(self):
        for rows in ([[0, None, None], [0, 3, 8]], [[0, None, None], [0, 3, None]], [[0, None, None], [0, 3, 9]]):
            self.says(False, ("fewest", (0, 0, 2, 8)), ([0, 1], rows))
        self.says(True, ("fewest", (0, 0, 2, 8)), ([2], [[0, None, None]]))
        self.says(True, ("fewest", (0, 0, 2, 8)), ([2], [[0, 1, 9]]))
        self.says(False, ("fewest", (0, 0, 2, 8)), ([2], [[0, 1, 8]]))
        self.says(False, ("fewest", (0, 0, 2, 8)), ([2], [[1, None, None]]))
        self.says(False, ("fewest", (0, 0, 2, 8)), ([2], []))

    def test_the_sender_is_the_wish(self):
        self.says(True, ("fewest", (0, 4, 0, 4)), ([], []))
        self.says(False, ("fewest", (0, 4, 0, 3)), ([], []))
        self.says(False, ("fewest", (0, 4, 0, 4)), ([], [[4, None, None]]))
        self.says(False, ("fewest", (0, 4, 0, 4)), ([], ()))
        self.says(False, ("fewest", (0, 4, 0, 4)), ([], None))
        self.says(False, ("fewest", (0, 4, 1, 4)), ([], []))
        self.says(False, ("fewest", (0, 0, 0, 9)), ([0, 1, 2], [[0, None, None], [0, 3, 8], [0, 3, 5]]))

    def test_of_anything(self):
        letter = (0, 0, 2, 7)
        self.of_anything(("fewest", letter), ([0, 1], [[0, None, None], [0, 3, 8]]),
                         lambda paper: fewest_by_words(self.book, letter, paper))

    def test_three_rows(self):
        book = made_book([0] * 4, [(0, 1, 3, 1), (1, 2, 5, 1), (0, 2, 7, 1), (2, 3, 8, 1)])
        letter = (0, 0, 3, 8)
        self.book = book
        paper = (fewest(book, letter), giving_rows(book, 0, 0)[:2])
        self.of_anything(("fewest", letter), paper, lambda paper: fewest_by_words(book, letter, paper))
        letter = (0, 0, 2, 6)
        paper = (fewest(book, letter), giving_rows(book, 0, 0)[:2])
        self.of_anything(("fewest", letter), paper, lambda paper: fewest_by_words(book, letter, paper))
        row = made_book([0] * 4, [(0, 1, 3, 1), (1, 2, 5, 1), (2, 3, 8, 1)])
        self.book, letter = row, (0, 0, 3, 8)
        paper = (fewest(row, letter), giving_rows(row, 0, 0)[:3])
        self.of_anything(("fewest", letter), paper, lambda paper: fewest_by_words(row, letter, paper))

    def test_all_rows(self):
        numbers = [None, 0, 1, 3, 4, 8]
        rows = [list(row) for row in itertools.product(numbers, repeat=3)]
        chance = random.Random(321)
        taken = 0
        for letter, chain in (((0, 0, 2, 7), [0, 1]), ((0, 1, 2, 7), [0, 1]), ((0, 0, 2, 8), [2])):
            for row in rows:
                if len(chain) == 1:
                    papers = [(chain, [row])]
                else:
                    papers = [(chain, [row, following]) for following in chance.sample(rows, 40) + [[0, 3, 8], [0, 1, 8]]]
                for paper in papers:
                    answer = fewest_by_words(self.book, letter, paper)
                    self.says(answer, ("fewest", letter), paper)
                    taken += answer
        self.assertGreater(taken, 20)


class Sacks(Papers):
    def setUp(self):
        self.book = made_book([2, 1, 3], [(0, 1, 3, 2), (1, 2, 5, 1), (0, 2, 8, 2)])
        self.loads, self.wants = [(0, 1, 4), (2, 0, 1)], [(2, 9, 3), (2, 4, 2)]
        self.plan, self.cut = carried(self.book, self.loads, self.wants)
        self.worth = plan_worth(self.book, self.loads, self.wants, self.plan)

    def test_worth(self):
        self.assertGreater(self.worth, 2)
        for many in (0, 1, self.worth - 1, self.worth, self.worth + 1, 10 ** 4):
            self.says(many == self.worth, ("carries", self.loads, self.wants, many), self.plan)
            self.says(many == self.worth, ("no more", self.loads, self.wants, many), self.cut)
            self.says(False, ("carries", self.loads, self.wants, many), self.cut)
            self.says(False, ("no more", self.loads, self.wants, many), self.plan)

    def test_of_loads_and_wants(self):
        for word, paper in (("carries", self.plan), ("no more", self.cut)):
            for loads, wants in ((self.loads[:1], self.wants), (self.loads, self.wants[:1]), (self.loads[::-1], self.wants),
                                 (self.wants, self.loads), ([], []), (self.loads * 2, self.wants)):
                look = plan_worth if word == "carries" else cut_worth
                told = look(self.book, loads, wants, paper)
                for many in range(8):
                    self.says(told == many, (word, loads, wants, many), paper)

    def test_nothing_carried(self):
        empty = ([(0, 0, [], []) for meeting in range(3)], [])
        marks = ([], [], [[0, 0, 0] for stretch in range(4)])
        self.says(True, ("carries", [], [], 0), empty)
        self.says(True, ("no more", [], [], 0), marks)
        for word in ("carries", "no more"):
            for paper in NO_WHOLES + [0, ((), ()), ([], []), ([], [], [])]:
                self.says(False, (word, [], [], 0), paper)
                self.says(False, (word, self.loads, self.wants, 0), paper)

    def test_of_anything(self):
        claim = ("carries", self.loads, self.wants, self.worth)
        self.of_anything(claim, self.plan, lambda paper: plan_worth(self.book, self.loads, self.wants, paper) == self.worth)
        claim = ("no more", self.loads, self.wants, self.worth)
        self.of_anything(claim, self.cut, lambda paper: cut_worth(self.book, self.loads, self.wants, paper) == self.worth)

    def test_truths(self):
        # True is no 1, and 1 no True.
        plan = ([(1, 0, [1], [0]), (1, 0, [0], [1])], [])
        book = made_book([1] * 3, [(0, 1, 3, 1), (1, 2, 5, 1)])
        claim = ("carries", [(0, 0, 1)], [(2, 9, 1)], 1)
        self.says(True, claim, plan, book)
        self.says(False, claim, ([(True, 0, [1], [0]), (1, 0, [0], [1])], []), book)
        self.says(False, claim, ([(1, 0, [1], [0]), (1, 0, [0], [True])], []), book)
        cut = ([False], [False], [[0] * 3] * 3)
        self.says(True, ("no more",) + claim[1:], cut, book)
        self.says(False, ("no more",) + claim[1:], ([0], [False], [[0] * 3] * 3), book)
        self.says(False, ("no more",) + claim[1:], ([False], [False], [[False] * 3] * 3), book)


class Wishes(Papers):
    def setUp(self):
        self.book = made_book([0] * 4, [(0, 1, 2, 1), (0, 2, 3, 1), (1, 3, 4, 1), (2, 3, 5, 1), (0, 3, 6, 1)])
        self.wishes = [(3, 5), (2, 9)]
        word, self.tree, self.prices = spread(self.book, 0, 0, self.wishes)

    def test_served(self):
        self.assertEqual(len(self.tree), 2)
        for many in (0, 1, 2, 3, 10 ** 4):
            self.says(many == 2, ("served", 0, 0, self.wishes, many), self.tree)
        longer = [(0, 0), (1, 0), (2, 1)]
        for many in (0, 2, 3, 4):
            self.says(many == 3, ("served", 0, 0, self.wishes, many), longer)
        self.says(False, ("served", 0, 0, self.wishes, 1), [(1, 0)])
        self.says(False, ("served", 0, 0, self.wishes, 2), tuple(self.tree))
        self.says(False, ("served", 0, 0, self.wishes, 2), [list(giving) for giving in self.tree])
        self.says(True, ("served", 0, 0, [(0, 0)], 0), [])
        self.says(False, ("served", 0, 0, [(1, 9)], 0), [])
        self.says(False, ("served", 1, 0, self.wishes, 2), self.tree)
        self.says(False, ("served", 0, 3, self.wishes, 2), self.tree)
        self.says(True, ("served", 0, 2, self.wishes, 2), self.tree)

    def test_no_fewer(self):
        for many in (0, 1, 2, 3, 10 ** 4):
            self.says(many <= 2, ("no fewer", 0, 0, self.wishes, many), self.prices)
        free = [[[0] * 4 for walker in range(4)] for stretch in range(6)]
        self.says(True, ("no fewer", 0, 0, self.wishes, 0), free)
        self.says(False, ("no fewer", 0, 0, self.wishes, 1), free)
        for many in (0, 1):
            self.says(False, ("no fewer", 0, 0, self.wishes, many), tuple(free))
            self.says(False, ("no fewer", 0, 0, self.wishes, many), free[1:])
            self.says(False, ("no fewer", 0, 0, self.wishes[:1], many), free)
            self.says(False, ("no fewer", 0, 0, self.wishes, many), None)
            self.says(False, ("no fewer", 0, 0, self.wishes, many), [])

    def test_of_anything(self):
        self.of_anything(("served", 0, 0, self.wishes, 2), self.tree,
                         lambda paper: tree_serves(self.book, 0, 0, self.wishes, paper) and len(paper) == 2)

        def by_words(paper):
            told = price_told(self.book, 0, 0, self.wishes, paper)
            return told is not None and told >= 2

        self.of_anything(("no fewer", 0, 0, self.wishes, 2), self.prices, by_words)


class Parts(Papers):
    def setUp(self):
        self.book = made_book([0] * 3, [(0, 1, 3, 1), (1, 2, 5, 1)])
        self.other = made_book([7] * 3, [(0, 1, 3, 1), (1, 2, 6, 1)])
        self.letter = (0, 0, 2, 5)

    def by_words(self, paper):
        return (type(paper) is tuple and len(paper) == 2 and chain_by_words(self.book, self.letter, paper[0])
                and wall_by_words(self.other, self.letter, paper[1]))

    def test_a_chain_and_a_wall(self):
        claim = ("parts", self.other, self.letter)
        self.says(True, claim, ([0, 1], [0, 3, 6]))
        for paper in (([0], [0, 3, 6]), ([0, 1], [0, 3, 5]), ([0, 1], [0, 4, 6]), ([0, 1], [1, 3, 6]), ([0, 1], [0, 3, 7]),
                      ([0, 3, 6], [0, 1]), [[0, 1], [0, 3, 6]], ([0, 1],), ([0, 1], [0, 3, 6], None), ((0, 1), [0, 3, 6]),
                      ([0, 1], (0, 3, 6)), None):
            self.says(False, claim, paper)

    def test_the_chain_is_in_the_first_book(self):
        self.says(False, ("parts", self.book, self.letter), ([0, 1], [0, 3, 6]), self.other)
        self.says(False, ("parts", self.other, (0, 0, 2, 6)), ([0, 1], [0, 3, 6]))
        self.says(False, ("parts", self.other, (0, 0, 2, 4)), ([0, 1], [0, 3, 6]))
        self.says(True, ("parts", made_book([0] * 3, []), (0, 0, 2, TOP)), ([0, 1], [0, None, None]))
        self.says(False, ("parts", self.book, self.letter), ([0, 1], [0, 3, 5]))

    def test_of_anything(self):
        self.of_anything(("parts", self.other, self.letter), ([0, 1], [0, 3, 6]), self.by_words)


class Apart(Papers):
    def setUp(self):
        self.book = made_book([0] * 6, [(0, 2, 3, 1), (2, 4, 2, 1), (1, 3, 2, 1)])

    def test_walkers_without_meetings_to_others(self):
        claim = ("apart", 0, 1)
        self.says(True, claim, [0, 2, 4])
        self.says(True, claim, [0, 2, 4, 5])
        for paper in ([0, 2], [0, 4], [0], [], [2, 4], [0, 1, 2, 4], [0, 1, 2, 3, 4], [0, 2, 3, 4], [2, 0, 4], [0, 2, 2, 4], [0, 0, 2, 4],
                      [0, 2, 4, 6], [-1, 0, 2, 4], (0, 2, 4), [False, 2, 4], [0, 2, 4, None], {0: 0, 2: 2, 4: 4}, None, "024"):
            self.says(False, claim, paper)

    def test_the_sender_and_the_wish(self):
        self.says(True, ("apart", 4, 5), [0, 2, 4])
        self.says(True, ("apart", 1, 0), [1, 3])
        self.says(True, ("apart", 1, 0), [1, 3, 5])
        self.says(True, ("apart", 5, 0), [5])
        self.says(False, ("apart", 5, 0), [1, 3])
        self.says(False, ("apart", 5, 0), [0, 2, 4, 5])
        self.says(False, ("apart", 0, 4), [0, 2, 4])
        self.says(False, ("apart", 0, 4), [0, 2])
        for paper in ([], [5], [0, 1, 2, 3, 4, 5]):
            self.says(False, ("apart", 5, 5), paper)

    def test_of_anything(self):
        self.of_anything(("apart", 0, 1), [0, 2, 4], lambda paper: apart_by_words(self.book, 0, 1, paper))

    def test_all_sets(self):
        taken = 0
        for book in some_books(322, 20, 5, 4, 9):
            walkers = range(len(book[0]))
            for size in range(len(book[0]) + 1):
                for paper in itertools.combinations(walkers, size):
                    for sender, wish in itertools.product(walkers, repeat=2):
                        answer = apart_by_words(book, sender, wish, list(paper))
                        self.says(answer, ("apart", sender, wish), list(paper), book)
                        taken += answer
        self.assertGreater(taken, 50)


class AnyBook(Papers):
    """Books of more than eight walkers and twenty-four meetings."""

    def test_twelve_walkers_and_sixty_meetings(self):
        chance = random.Random(323)
        for number, book in enumerate(full_books(324, 4)):
            for letter in some_letters(number, book, 5, book[1][-1][2]):
                sender, since, wish, last = letter
                chain, times = earliest(book, letter), earliest_times(book, sender, since)
                self.says(chain is None, ("never", letter), times, book)
                if chain is not None:
                    self.says(True, ("comes", letter), chain, book)
                    self.says(True, ("earliest", letter, times[wish]), (chain, times), book)
                    short = fewest(book, letter)
                    self.says(True, ("fewest", letter), (short, giving_rows(book, sender, since)[:len(short)]), book)
                    greatest = (sender, leavings(book, wish, last)[sender], wish, last)
                    self.says(True, ("latest", greatest), (earliest(book, greatest), leavings(book, wish, last)), book)
            wishes = [(walker, TOP) for walker in chance.sample(range(12), 4)]
            prices = least_prices(book, wishes)
            told = price_told(book, 3, 0, wishes, prices)
            self.assertGreater(told, 0)
            for many in (0, told - 1, told, told + 1):
                self.says(many <= told, ("no fewer", 3, 0, wishes, many), prices, book)
            chain, tree, holder = earliest(book, (3, 0, 5, TOP)), [], 3
            for meeting in chain:
                tree.append((meeting, holder))
                holder = sum(book[1][meeting][:2]) - holder
            self.says(True, ("served", 3, 0, [(5, TOP)], len(tree)), tree, book)
            loads, wants = [(walker, 0, 9) for walker in range(8)], [(walker, TOP, 9) for walker in range(4, 12)]
            plan, cut = carried(book, loads, wants)
            worth = plan_worth(book, loads, wants, plan)
            for many in (worth - 1, worth, worth + 1):
                self.says(many == worth, ("carries", loads, wants, many), plan, book)
                self.says(many == worth, ("no more", loads, wants, many), cut, book)


class Kept(Papers):
    def test_what_is_handed_in_may_be_changed_behind_it(self):
        book = made_book([0] * 3, [(0, 1, 3, 1), (1, 2, 5, 1)])
        claim, paper = ("comes", (0, 0, 2, 9)), [0, 1]
        kept = copy.deepcopy(paper)
        self.says(True, claim, paper, book)
        paper.clear()
        self.says(False, claim, paper, book)
        self.says(True, claim, kept, book)


if __name__ == "__main__":
    unittest.main()
