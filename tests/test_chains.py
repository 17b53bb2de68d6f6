import copy
import itertools
import unittest

from satchelmeet.books import made_book
from satchelmeet.chains import arrival, is_chain, walkers_along
from tests.helper import NO_WHOLES, TOP, all_chains, end_of, some_books, some_letters


class Chains(unittest.TestCase):
    def setUp(self):
        meetings = [(0, 1, 3, 1), (1, 2, 5, 1), (2, 3, 8, 1), (1, 0, 9, 1), (0, 3, 20, 1)]
        self.book = made_book([1, 0, 1, 1], meetings)

    def says(self, letter, thing, answer):
        kept = copy.copy(thing)
        self.assertIs(is_chain(self.book, letter, thing), answer, (letter, thing))
        self.assertEqual(thing, kept)

    def test_several_meetings(self):
        self.says((0, 0, 3, 10), [0, 1, 2], True)
        self.says((0, 0, 2, 10), [0, 1], True)
        self.says((0, 0, 3, 20), [4], True)
        self.says((3, 0, 1, 10), [2, 3], False)
        self.says((2, 0, 0, 9), [1, 3], True)

    def test_must_end_at_the_wish(self):
        self.says((0, 0, 3, TOP), [0, 1], False)
        self.says((0, 0, 2, TOP), [0, 1, 2], False)

    def test_must_begin_at_the_sender(self):
        self.says((3, 0, 2, TOP), [0, 1], False)
        self.says((0, 0, 2, TOP), [1], False)
        self.says((1, 0, 2, TOP), [1], True)

    def test_each_one_is_of_the_one_who_has_it(self):
        self.says((0, 0, 3, TOP), [0, 2], False)
        self.says((0, 0, 3, TOP), [0, 4], False)

    def test_since_is_below_the_first_when(self):
        for since, answer in [(0, True), (2, True), (3, False), (4, False), (TOP, False)]:
            self.says((0, since, 2, TOP), [0, 1], answer)

    def test_last_is_from_the_last_when_on(self):
        for last, answer in [(0, False), (4, False), (5, True), (6, True), (TOP, True)]:
            self.says((0, 0, 2, last), [0, 1], answer)

    def test_rising(self):
        self.says((0, 0, 1, TOP), [0], True)
        self.says((0, 0, 0, TOP), [0, 0], False)
        self.says((3, 0, 1, TOP), [2, 1], False)
        self.says((0, 0, 2, TOP), [1, 0], False)

    def test_comes_back_to_one_who_had_it(self):
        self.says((0, 0, 0, 9), [0, 3], True)
        self.says((0, 0, 0, 8), [0, 3], False)
        self.says((0, 0, 3, 20), [0, 3, 4], True)

    def test_empty(self):
        for since, last, answer in [(5, 5, True), (4, 5, True), (5, 4, False), (0, TOP, True), (TOP, 0, False)]:
            self.says((2, since, 2, last), [], answer)
        self.says((0, 0, 1, TOP), [], False)

    def test_anything(self):
        letter = (0, 0, 2, TOP)
        odd = [(0, 1), [(0, 1)], [0, 1, 5], [0, -4], [-5, 1], [0, 1, 10 ** 30], [-10 ** 30, 0, 1], [[0], [1]]]
        odd += ["01", {0: 0, 1: 1}, {0, 1}, 0, 1, 10 ** 30]
        for thing in odd + [thing for thing in NO_WHOLES if thing != []]:
            self.says(letter, thing, False)
        for thing in NO_WHOLES:
            self.says(letter, [0, thing], False)
            self.says(letter, [thing, 1], False)

    def test_truths_are_no_numbers(self):
        self.says((0, 0, 2, TOP), [False, True], False)
        self.says((1, 0, 2, TOP), [True], False)
        self.says((0, 0, 1, TOP), [False], False)

    def test_what_is_no_letter_has_no_chain(self):
        odd = [[0, 0, 2, 9], (0, 0, 2), (0, 0, 2, 9, 9), (0, 0, 4, 9), (-1, 0, 2, 9), (False, 0, 2, 9)]
        for letter in odd + NO_WHOLES:
            self.says(letter, [0, 1], False)
            self.says(letter, [], False)

    def test_arrival(self):
        self.assertEqual(arrival(self.book, (0, 0, 2, 10), [0, 1]), 5)
        self.assertEqual(arrival(self.book, (0, 0, 0, 10), [0, 3]), 9)
        self.assertEqual(arrival(self.book, (0, 7, 0, 10), []), 7)

    def test_walkers_along(self):
        self.assertEqual(walkers_along(self.book, (0, 0, 3, 10), [0, 1, 2]), [0, 1, 2, 3])
        self.assertEqual(walkers_along(self.book, (2, 0, 3, 20), [1, 3, 4]), [2, 1, 0, 3])
        self.assertEqual(walkers_along(self.book, (0, 0, 3, 20), [0, 3, 4]), [0, 1, 0, 3])
        self.assertEqual(walkers_along(self.book, (2, 0, 2, 20), []), [2])

    def test_what_is_told_is_the_askers_own(self):
        chain = [0, 1, 2]
        told = walkers_along(self.book, (0, 0, 3, 10), chain)
        told.clear()
        self.assertEqual(walkers_along(self.book, (0, 0, 3, 10), chain), [0, 1, 2, 3])
        self.assertEqual(chain, [0, 1, 2])

    def test_many_books(self):
        for seed, book in enumerate(some_books(21, 60, 5, 8, 8)):
            numbers = range(len(book[1]))
            for letter in some_letters(seed, book, 6, 9):
                right = all_chains(book, letter)
                for size in range(len(numbers) + 1):
                    for row in itertools.combinations(numbers, size):
                        self.assertIs(is_chain(book, letter, list(row)), list(row) in right)
                for chain in right:
                    self.assertEqual(arrival(book, letter, chain), end_of(book, letter, chain))
                    along = walkers_along(book, letter, chain)
                    self.assertEqual([along[0], along[-1]], [letter[0], letter[2]])
                    pairs = [sorted(pair) for pair in zip(along, along[1:])]
                    self.assertEqual(pairs, [list(book[1][number][:2]) for number in chain])


if __name__ == "__main__":
    unittest.main()
