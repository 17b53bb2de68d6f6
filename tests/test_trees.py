import copy
import itertools
import random
import unittest

from satchelmeet.books import made_book
from satchelmeet.trees import tree_serves
from satchelmeet.walls import earliest, earliest_times
from tests.helper import TOP, full_books, other_kinds, some_books, variants

HUGE = 10 ** 30


def serves_by_words(book, sender, since, wishes, tree):
    """A list of pairs of whole numbers, looked at sentence by sentence."""
    has = {(sender, since)}
    numbers = [number for number, giver in tree]
    if any(number not in range(len(book[1])) for number in numbers):
        return False
    if any(one >= other for one, other in zip(numbers, numbers[1:])):
        return False
    for number, giver in tree:
        one, other, when, many = book[1][number]
        if giver not in (one, other) or not any(walker == giver and time < when for walker, time in has):
            return False
        has.add((other if giver == one else one, when))
    return all(any(walker == wish and time <= last for walker, time in has) for wish, last in wishes)


class TreeServes(unittest.TestCase):
    def setUp(self):
        self.book = made_book([0] * 5, [(0, 1, 3, 1), (1, 2, 4, 1), (0, 3, 5, 1), (2, 3, 8, 1), (1, 3, 9, 1)])
        self.wishes = [(2, 4), (3, 9)]

    def says(self, answer, tree, wishes=None, sender=0, since=0, book=None):
        book, wishes = book or self.book, wishes or self.wishes
        kept = repr((book, wishes, tree))
        told = tree_serves(book, sender, since, wishes, tree)
        self.assertIs(told, answer, tree)
        self.assertEqual(repr((book, wishes, tree)), kept)

    def test_trees(self):
        self.says(True, [(0, 0), (1, 1), (2, 0)])
        self.says(True, [(0, 0), (1, 1), (3, 2)])
        self.says(True, [(0, 0), (1, 1), (4, 1)])

    def test_a_wish_that_has_it_not(self):
        self.says(False, [(0, 0), (1, 1)])
        self.says(False, [(2, 0)])
        self.says(False, [])
        self.says(True, [(2, 0)], [(3, 5)])

    def test_last(self):
        self.says(False, [(0, 0), (1, 1), (2, 0)], [(2, 3), (3, 9)])
        self.says(True, [(0, 0), (1, 1), (3, 2)], [(2, 4), (3, 8)])
        self.says(False, [(0, 0), (1, 1), (3, 2)], [(2, 4), (3, 7)])
        self.says(True, [(0, 0), (1, 1), (2, 0)], [(2, 4), (3, 5)])

    def test_the_sender_is_a_wish(self):
        self.says(True, [], [(0, 0)])
        self.says(True, [], [(0, 4)], since=4)
        self.says(False, [], [(0, 3)], since=4)
        self.says(True, [(0, 0)], [(0, 0), (1, 3)])

    def test_four_wishes(self):
        tree = [(0, 0), (1, 1), (2, 0)]
        self.says(True, tree, [(0, 0), (1, 3), (2, 4), (3, 5)])
        for place in range(1, 4):
            wishes = [(0, 0), (1, 3), (2, 4), (3, 5)]
            wishes[place] = (wishes[place][0], wishes[place][1] - 1)
            self.says(False, tree, wishes)
        self.says(False, tree, [(0, 0), (1, 3), (2, 4), (4, TOP)])

    def test_more_than_is_needed(self):
        self.says(True, [(0, 0), (1, 1), (2, 0), (3, 2)])
        self.says(True, [(0, 0), (1, 1), (2, 0), (3, 3), (4, 1)])

    def test_one_that_had_it_has_it_since_its_earlier_time(self):
        # 3 has it since 5, be it given again at 8 and 9.
        self.says(True, [(0, 0), (1, 1), (2, 0), (3, 2)], [(3, 5)])
        self.says(True, [(0, 0), (2, 0), (4, 1)], [(3, 5)])
        book = made_book([0] * 3, [(0, 1, 3, 1), (0, 1, 4, 1), (0, 1, 5, 1), (1, 2, 5 + 1, 1)])
        self.says(True, [(0, 0), (1, 1), (2, 0), (3, 1)], [(1, 3), (2, 6), (0, 0)], book=book)

    def test_since_below_when(self):
        self.says(True, [(0, 0)], [(1, 3)], since=2)
        self.says(False, [(0, 0)], [(1, 3)], since=3)
        self.says(False, [(0, 0)], [(1, 3)], since=4)

    def test_a_giver_that_has_it_since_the_meetings_own_when(self):
        book = made_book([0] * 4, [(0, 1, 5, 1), (2, 3, 5, 1), (1, 2, 6, 1)])
        self.says(False, [(0, 0), (1, 2)], [(3, 9)], book=book)
        self.says(False, [(0, 0), (0, 1)], [(0, 9)], book=book)
        # By the sender's own since.
        self.says(False, [(0, 0)], [(1, 9)], book=book, since=5)
        self.says(True, [(0, 0)], [(1, 9)], book=book, since=4)

    def test_a_giver_that_has_it_not(self):
        self.says(False, [(0, 1), (1, 1), (2, 0)])
        self.says(False, [(1, 1), (2, 0)])
        self.says(False, [(0, 0), (1, 2), (2, 0)])
        self.says(False, [(0, 0), (1, 1), (2, 0), (3, 2), (4, 4)])

    def test_a_giver_that_is_not_there(self):
        for giver in (2, 3, 4, 5, -1, -5, HUGE, -HUGE):
            self.says(False, [(0, giver), (1, 1), (2, 0)])
        self.says(False, [(0, 0), (1, 0), (2, 0)])
        # These have the letter in time.
        self.says(False, [(1, 0)], [(0, 0)])
        self.says(False, [(0, 0), (3, 1)], [(0, 0)])
        self.says(False, [(0, 3)], [(3, 0)], sender=3)

    def test_meetings_rise(self):
        self.says(False, [(0, 0), (2, 0), (1, 1)])
        self.says(False, [(0, 0), (0, 0), (1, 1), (2, 0)])
        self.says(False, [(2, 0), (0, 0), (1, 1)])
        self.says(False, [(0, 0), (1, 1), (2, 0), (2, 0)])

    def test_numbers_of_no_meeting(self):
        for number in (5, -1, -5, HUGE, -HUGE):
            self.says(False, [(0, 0), (1, 1), (2, 0), (number, 1)])
            self.says(False, [(number, 0)])
        self.says(False, [(0, 0)], [(0, 0)], book=made_book([0], []))

    def test_of_anything(self):
        # With wishes of the sender alone each tree serves, so that only its form counts.
        tree = [(0, 0), (1, 1), (2, 0)]
        for thing in variants(tree, other_kinds):
            self.says(repr(thing) == repr(tree[:2]), thing, [(0, 0)])

    def test_truths_are_no_numbers(self):
        book = made_book([0] * 3, [(0, 1, 3, 1), (0, 1, 5, 1)])
        self.says(True, [(0, 0), (1, 1)], [(0, 0)], book=book)
        for tree in ([(False, 0), (1, 1)], [(0, False), (1, 1)], [(0, 0), (True, 1)], [(0, 0), (1, True)]):
            self.says(False, tree, [(0, 0)], book=book)

    def test_books_of_any_size(self):
        for book in full_books(84, 5):
            times = earliest_times(book, 3, 0)
            for walker in range(12):
                chain = earliest(book, (3, 0, walker, TOP))
                tree, holder = [], 3
                for number in chain:
                    tree.append((number, holder))
                    holder = sum(book[1][number][:2]) - holder
                self.says(True, tree, [(walker, times[walker])], sender=3, book=book)
                self.says(False, tree, [(walker, times[walker] - 1)], sender=3, book=book)

    def test_bounds_of_time(self):
        book = made_book([0, 0], [(0, 1, 1, 1), (0, 1, TOP, 1)])
        self.says(True, [(0, 0)], [(1, 1)], book=book)
        self.says(True, [(1, 0)], [(1, TOP)], since=TOP - 1, book=book)
        self.says(False, [(1, 0)], [(1, TOP - 1)], book=book)

    def test_by_the_words(self):
        chance = random.Random(39)
        answers = []
        for book in some_books(85, 200, 5, 7, 7):
            if len(book[0]) < 2 or not book[1]:
                continue
            walkers = range(len(book[0]))
            for size in range(len(book[1]) + 1):
                numbers = sorted(chance.sample(range(len(book[1])), size))
                for givers in itertools.islice(itertools.product(*[book[1][number][:2] for number in numbers]), 32):
                    tree = list(zip(numbers, givers))
                    sender, since = chance.choice(walkers), chance.choice([0, 0, 1, 3])
                    wished = chance.sample(walkers, chance.randint(1, min(2, len(walkers))))
                    wishes = [(walker, chance.randint(1, 8)) for walker in wished]
                    answer = serves_by_words(book, sender, since, wishes, tree)
                    self.says(answer, tree, wishes, sender, since, book)
                    answers.append(answer)
        self.assertGreater(answers.count(True), 150)
        self.assertGreater(answers.count(False), 500)

    def test_what_is_handed_in_may_be_changed_behind_it(self):
        tree = [(0, 0), (1, 1), (2, 0)]
        kept = copy.deepcopy(tree)
        self.says(True, tree)
        tree.append((0, 0))
        self.says(False, tree)
        self.says(True, kept)


if __name__ == "__main__":
    unittest.main()
