import copy
import itertools
import unittest

from satchelmeet.books import made_book
from satchelmeet.chains import is_chain
from satchelmeet.leavings import bars_back, latest, leavings
from satchelmeet.walls import earliest
from tests.helper import NO_WHOLES, TOP, all_chains, full_books, odd_rows, some_books, some_letters

MEETINGS = [(0, 1, 3, 1), (1, 2, 5, 1), (0, 1, 6, 1), (2, 3, 8, 1)]


class Leavings(unittest.TestCase):
    def setUp(self):
        self.book = made_book([0] * 5, MEETINGS)

    def test_numbers_and_none(self):
        self.assertEqual(leavings(self.book, 3, 8), [2, 4, 7, 8, None])
        self.assertEqual(leavings(self.book, 3, TOP), [2, 4, 7, TOP, None])
        self.assertEqual(leavings(self.book, 0, 9), [9, 5, 4, None, None])
        self.assertEqual(leavings(self.book, 4, 0), [None, None, None, None, 0])

    def test_last_at_a_when_and_one_below(self):
        self.assertEqual(leavings(self.book, 2, 5), [2, 4, 5, None, None])
        self.assertEqual(leavings(self.book, 2, 4), [None, None, 4, None, None])

    def test_a_since_of_0(self):
        book = made_book([0, 0], [(0, 1, 1, 1)])
        self.assertEqual(leavings(book, 1, 1), [0, 1])
        self.assertEqual(leavings(book, 1, 0), [None, 0])

    def test_one_walker(self):
        self.assertEqual(leavings(made_book([0], []), 0, TOP), [TOP])

    def test_a_list_of_its_own_each_time(self):
        leavings(self.book, 3, 8).clear()
        self.assertEqual(leavings(self.book, 3, 8), [2, 4, 7, 8, None])

    def test_many_books(self):
        for book in some_books(51, 60, 5, 7, 7):
            for wish, last in itertools.product(range(len(book[0])), [0, 1, 3, 5, 8]):
                told = leavings(book, wish, last)
                self.assertEqual(len(told), len(book[0]))
                for sender, number in enumerate(told):
                    good = [since for since in range(10) if all_chains(book, (sender, since, wish, last))]
                    self.assertEqual(number, max(good, default=None))


class Latest(unittest.TestCase):
    def setUp(self):
        self.book = made_book([0] * 5, MEETINGS)

    def test_since_and_chain(self):
        self.assertEqual(latest(self.book, (0, 0, 3, 8)), (2, [0, 1, 3]))
        self.assertEqual(latest(self.book, (1, 0, 0, 9)), (5, [2]))
        self.assertEqual(latest(self.book, (1, 0, 0, 5)), (2, [0]))

    def test_its_own_since_counts_for_nothing(self):
        for since in [0, 2, 3, 50, TOP]:
            self.assertEqual(latest(self.book, (0, since, 3, 8)), (2, [0, 1, 3]))
            self.assertEqual(latest(self.book, (4, since, 4, 8)), (8, []))

    def test_none(self):
        self.assertIsNone(latest(self.book, (0, 0, 3, 7)))
        self.assertIsNone(latest(self.book, (0, 0, 4, TOP)))

    def test_sender_is_the_wish(self):
        self.assertEqual(latest(self.book, (0, 0, 0, 7)), (7, []))

    def test_a_list_of_its_own_each_time(self):
        latest(self.book, (0, 0, 3, 8))[1].clear()
        self.assertEqual(latest(self.book, (0, 0, 3, 8)), (2, [0, 1, 3]))

    def test_what_is_no_letter_has_no_chain(self):
        for letter in [(0, 0, 5, 9), (5, 0, 0, 9), (0, 0, -1, 9), (-1, 0, 0, 9)]:
            self.assertIsNone(latest(self.book, letter))

    def look(self, book, letter):
        sender, since, wish, last = letter
        told = latest(book, letter)
        numbers = leavings(book, wish, last)
        if told is None:
            self.assertIsNone(numbers[sender])
            self.assertIs(bars_back(book, (sender, 0, wish, last), numbers), True)
            return
        self.assertIs(type(told), tuple)
        greatest, chain = told
        self.assertEqual(greatest, numbers[sender])
        self.assertIs(is_chain(book, (sender, greatest, wish, last), chain), True)
        self.assertIs(bars_back(book, (sender, greatest, wish, last), numbers), False)
        if greatest < TOP:
            self.assertIsNone(earliest(book, (sender, greatest + 1, wish, last)))
            self.assertIs(bars_back(book, (sender, greatest + 1, wish, last), numbers), True)

    def test_the_greatest_comes_and_one_more_does_not(self):
        for seed, book in enumerate(some_books(57, 120, 6, 12, 9)):
            for letter in some_letters(seed, book, 12, 10):
                self.look(book, letter)

    def test_full_books(self):
        for seed, book in enumerate(full_books(6, 20)):
            kept = copy.deepcopy(book)
            top = max(row[2] for row in book[1])
            for letter in some_letters(seed, book, 60, top):
                self.look(book, letter)
            self.assertEqual(book, kept)


class BarsBack(unittest.TestCase):
    def setUp(self):
        # The letter is sent at 3, one too late for the meeting at 3.
        self.book = made_book([0] * 4, [(0, 1, 3, 1), (1, 2, 5, 1), (2, 3, 8, 1)])
        self.letter = (0, 3, 2, 6)

    def says(self, thing, answer, letter=None):
        kept = copy.copy(thing)
        self.assertIs(bars_back(self.book, letter or self.letter, thing), answer, thing)
        self.assertEqual(thing, kept)

    def test_leavings(self):
        self.says([2, 4, 6, None], True)

    def test_numbers_that_are_no_leavings(self):
        self.says([2, 4, 7, None], True)
        self.says([2, 6, 6, None], True)
        self.says([2, 4, 6, -5], True)
        self.says([2, 4, 6, 7], True)
        self.says([2, 10 ** 30, 10 ** 30, 10 ** 30], True)

    def test_the_wishes_is_a_number_from_last_on(self):
        self.says([2, 4, 5, None], False)
        self.says([None, None, 4, None], False)
        self.says([None, None, None, None], False)

    def test_the_senders_is_none_or_below_since(self):
        self.says([3, 4, 6, None], False)
        self.says([10 ** 30, 4, 6, None], False)
        self.says([3, 4, 6, None], True, (0, 4, 2, 6))
        self.says([None, None, 4, None], True, (0, 0, 2, 4))
        self.says([-1, None, 4, None], True, (0, 0, 2, 4))
        self.says([0, None, 4, None], False, (0, 0, 2, 4))

    def test_at_a_meeting_the_givers_is_a_number(self):
        self.says([None, 4, 6, None], False)
        self.says([2, None, 6, None], False)
        self.says([2, 4, 8, None], False)

    def test_at_a_meeting_the_givers_is_from_one_below_its_when_on(self):
        self.says([1, 4, 6, None], False)
        self.says([2, 3, 6, None], False)
        self.says([2, 4, 8, 6], False)
        self.says([2, 4, 8, 7], True)

    def test_either_way(self):
        # Who wishes is the first of the meeting's two here, and the giver the second one.
        letter = (1, 3, 0, 3)
        self.says([3, 2, None, None], True, letter)
        self.says([3, 1, None, None], False, letter)
        self.says([3, None, None, None], False, letter)

    def test_what_is_one_below_the_when_takes_nothing(self):
        letter = (0, 0, 2, 4)
        self.says([None, None, 4, None], True, letter)
        self.says([None, None, 5, None], False, letter)

    def test_sender_is_the_wish(self):
        book = made_book([1], [])
        self.assertIs(bars_back(book, (0, 5, 0, 4), [4]), True)
        self.assertIs(bars_back(book, (0, 5, 0, 4), [5]), False)
        self.assertIs(bars_back(book, (0, 5, 0, 4), [3]), False)
        self.assertIs(bars_back(book, (0, 5, 0, 5), [5]), False)
        self.assertIs(bars_back(book, (0, 5, 0, 4), [None]), False)

    def test_anything(self):
        for thing in odd_rows([2, 4, 6, None]):
            self.says(thing, False)
        book = made_book([1, 1], [])
        self.assertIs(bars_back(book, (0, 1, 1, 1), [None, 1]), True)
        self.assertIs(bars_back(book, (0, 1, 1, 1), [None, True]), False)

    def test_what_is_no_letter_has_no_wall(self):
        odd = [[0, 3, 2, 6], (0, 3, 2), (0, 3, 4, 6), (-1, 3, 2, 6), (0, 3, 2, -1), (False, 3, 2, 6)]
        for letter in odd + [thing for thing in NO_WHOLES if thing]:
            self.says([2, 4, 6, None], False, letter)

    def test_each_row_of_small_numbers(self):
        book = made_book([1] * 3, [(0, 1, 1, 1), (1, 2, 2, 1), (0, 2, 3, 1)])
        values = [None, -1, 0, 1, 2, 3, 4]
        for letter in itertools.product(range(3), range(4), range(3), range(4)):
            chains = all_chains(book, letter)
            for row in itertools.product(values, repeat=3):
                right = self.is_back_wall(book, letter, row)
                self.assertIs(bars_back(book, letter, list(row)), right)
                self.assertFalse(right and chains)

    def is_back_wall(self, book, letter, row):
        sender, since, wish, last = letter
        holds = [row[wish] is not None and row[wish] >= last, row[sender] is None or row[sender] < since]
        for one, other, when, many in book[1]:
            for giver, taker in [(one, other), (other, one)]:
                if row[taker] is not None and row[taker] >= when:
                    holds.append(row[giver] is not None and row[giver] >= when - 1)
        return all(holds)


if __name__ == "__main__":
    unittest.main()
