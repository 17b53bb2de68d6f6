import copy
import itertools
import unittest

from satchelmeet.books import made_book
from satchelmeet.chains import is_chain
from satchelmeet.hands import fewest, giving_rows
from satchelmeet.walls import earliest, earliest_times
from tests.helper import TOP, all_chains, end_of, full_books, some_books, some_letters

MEETINGS = [(0, 1, 2, 1), (1, 2, 3, 1), (2, 3, 4, 1), (0, 2, 5, 1), (2, 3, 7, 1), (0, 3, 9, 1)]


class GivingRows(unittest.TestCase):
    def setUp(self):
        self.book = made_book([0] * 5, MEETINGS)

    def test_rows(self):
        rows = [[0, None, None, None, None], [0, 2, 5, 9, None], [0, 2, 3, 7, None], [0, 2, 3, 4, None]]
        self.assertEqual(giving_rows(self.book, 0, 0), rows)

    def test_row_0_has_the_senders_since_alone(self):
        self.assertEqual(giving_rows(self.book, 3, 6)[0], [None, None, None, 6, None])

    def test_one_row_where_nothing_is_given(self):
        self.assertEqual(giving_rows(self.book, 4, 3), [[None, None, None, None, 3]])
        self.assertEqual(giving_rows(self.book, 0, 9), [[9, None, None, None, None]])
        self.assertEqual(giving_rows(made_book([0], []), 0, 3), [[3]])

    def test_since_at_a_when_and_one_below(self):
        book = made_book([1, 1], [(0, 1, 4, 1)])
        self.assertEqual(giving_rows(book, 0, 3), [[3, None], [3, 4]])
        self.assertEqual(giving_rows(book, 0, 4), [[4, None]])

    def test_rows_of_their_own(self):
        told = giving_rows(self.book, 0, 0)
        told[0][0] = 99
        told[1].clear()
        self.assertEqual(told[2], [0, 2, 3, 7, None])
        self.assertEqual(giving_rows(self.book, 0, 0)[:2], [[0, None, None, None, None], [0, 2, 5, 9, None]])

    def test_many_books(self):
        for book in some_books(61, 60, 5, 8, 7):
            for sender, since in itertools.product(range(len(book[0])), [0, 2, 5]):
                chains = [all_chains(book, (sender, since, wish, TOP)) for wish in range(len(book[0]))]
                rows = []
                for most in range(len(book[1]) + 2):
                    rows.append([self.best(book, (sender, since), found, most) for found in chains])
                    if rows[-1:] == rows[-2:-1]:
                        break
                self.assertEqual(giving_rows(book, sender, since), rows[:-1])

    def best(self, book, start, chains, most):
        return min([end_of(book, start, chain) for chain in chains if len(chain) <= most], default=None)

    def test_the_last_row_has_the_earliest_times(self):
        for book in full_books(7, 20):
            for sender in range(12):
                rows = giving_rows(book, sender, 3)
                self.assertEqual(rows[-1], earliest_times(book, sender, 3))
                for row, following in zip(rows, rows[1:]):
                    self.assertNotEqual(row, following)


class Fewest(unittest.TestCase):
    def setUp(self):
        self.book = made_book([0] * 5, MEETINGS)

    def test_fewer_than_the_earliest(self):
        self.assertEqual(earliest(self.book, (0, 0, 3, 9)), [0, 1, 2])
        self.assertEqual(fewest(self.book, (0, 0, 3, 9)), [5])

    def test_as_last_lets(self):
        self.assertEqual(fewest(self.book, (0, 0, 3, 8)), [3, 4])
        self.assertEqual(fewest(self.book, (0, 0, 3, 7)), [3, 4])
        self.assertEqual(fewest(self.book, (0, 0, 3, 6)), [0, 1, 2])
        self.assertEqual(fewest(self.book, (0, 0, 3, 4)), [0, 1, 2])
        self.assertIsNone(fewest(self.book, (0, 0, 3, 3)))

    def test_never(self):
        self.assertIsNone(fewest(self.book, (0, 0, 4, TOP)))
        self.assertIsNone(fewest(self.book, (0, 9, 3, TOP)))

    def test_sender_is_the_wish(self):
        self.assertEqual(fewest(self.book, (0, 5, 0, 5)), [])
        self.assertIsNone(fewest(self.book, (0, 5, 0, 4)))

    def test_a_list_of_its_own_each_time(self):
        fewest(self.book, (0, 0, 3, 9)).clear()
        self.assertEqual(fewest(self.book, (0, 0, 3, 9)), [5])

    def test_what_is_no_letter_has_no_chain(self):
        for letter in [(0, 0, 5, 9), (5, 0, 0, 9), (0, 0, -1, 9), (-1, 0, 0, 9)]:
            self.assertIsNone(fewest(self.book, letter))

    def test_small_books(self):
        more = 0
        for seed, book in enumerate(some_books(67, 150, 6, 9, 9)):
            for letter in some_letters(seed, book, 10, 12):
                chains = all_chains(book, letter)
                told = fewest(book, letter)
                if told is None:
                    self.assertEqual(chains, [])
                    continue
                self.assertIn(told, chains)
                self.assertEqual(len(told), min(len(chain) for chain in chains))
                more += len(earliest(book, letter)) > len(told)
        self.assertGreater(more, 0)

    def test_full_books(self):
        for seed, book in enumerate(full_books(9, 20)):
            kept = copy.deepcopy(book)
            top = max(row[2] for row in book[1])
            for letter in some_letters(seed, book, 60, top):
                told = fewest(book, letter)
                first = earliest(book, letter)
                self.assertEqual(told is None, first is None)
                if told is not None:
                    self.assertIs(is_chain(book, letter, told), True)
                    self.assertLessEqual(len(told), len(first))
                    self.assertEqual(len(told), self.layer(book, letter))
            self.assertEqual(book, kept)

    def layer(self, book, letter):
        """The least number of givings, by a walk over all who can have it since what time."""
        sender, since, wish, last = letter
        reached = {(sender, since)}
        for many in range(61):
            if any(walker == wish and time <= last for walker, time in reached):
                return many
            given = set()
            for one, other, when, most in book[1]:
                for giver, taker in [(one, other), (other, one)]:
                    if any(walker == giver and time < when for walker, time in reached):
                        given.add((taker, when))
            reached = given
        return None


if __name__ == "__main__":
    unittest.main()
