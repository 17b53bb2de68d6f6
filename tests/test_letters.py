import unittest

from satchelmeet.books import made_book
from satchelmeet.letters import is_letter
from tests.helper import NO_WHOLES, TOP


class Letters(unittest.TestCase):
    def setUp(self):
        self.book = made_book([1, 2, 3], [(0, 1, 5, 1)])

    def test_letters(self):
        for letter in [(0, 0, 2, 0), (2, TOP, 0, TOP), (1, 5, 1, 3), (1, TOP, 0, 0), (0, 0, 0, 0)]:
            self.assertIs(is_letter(self.book, letter), True, letter)

    def test_bounds_of_walkers(self):
        for walker in [-1, 3, 10 ** 30, -10 ** 30]:
            self.assertIs(is_letter(self.book, (walker, 0, 0, 5)), False)
            self.assertIs(is_letter(self.book, (0, 0, walker, 5)), False)

    def test_bounds_of_times(self):
        for time in [-1, TOP + 1, 10 ** 30, -10 ** 30]:
            self.assertIs(is_letter(self.book, (0, time, 1, 5)), False)
            self.assertIs(is_letter(self.book, (0, 0, 1, time)), False)

    def test_one_walker(self):
        book = made_book([0], [])
        self.assertIs(is_letter(book, (0, 3, 0, 4)), True)
        self.assertIs(is_letter(book, (0, 3, 1, 4)), False)

    def test_no_tuple_of_four(self):
        odd = [[0, 0, 1, 5], (0, 0, 1), (0, 0, 1, 5, 5), "0015", {0: 0, 1: 0, 2: 1, 3: 5}, 0, 10 ** 30]
        for thing in odd + NO_WHOLES:
            self.assertIs(is_letter(self.book, thing), False, thing)

    def test_other_kinds_in_a_numbers_place(self):
        for place in range(4):
            for thing in NO_WHOLES:
                letter = [0, 0, 1, 5]
                letter[place] = thing
                self.assertIs(is_letter(self.book, tuple(letter)), False, letter)


if __name__ == "__main__":
    unittest.main()
