import unittest

from satchelmeet.books import made_book
from satchelmeet.chains import arrival, is_chain
from satchelmeet.receipts import receipts
from satchelmeet.walls import earliest, earliest_times
from tests.helper import TOP, all_chains, end_of, full_books, some_books, some_letters


class Receipts(unittest.TestCase):
    def look(self, book, letter, most):
        """What is told, with the chain of each looked at."""
        kept = repr((book, letter))
        told = receipts(book, letter, most)
        self.assertEqual(repr((book, letter)), kept)
        self.assertIsInstance(told, list)
        self.assertLessEqual(len(told), most)
        asked = letter
        for part in told:
            self.assertIsInstance(part, tuple)
            walker, time, chain = part
            self.assertEqual(walker, asked[2])
            self.assertTrue(is_chain(book, asked, chain))
            self.assertEqual(arrival(book, asked, chain), time)
            asked = (asked[2], time, asked[0], TOP)
        return told

    def setUp(self):
        self.book = made_book([0] * 3, [(0, 1, 2, 1), (1, 2, 3, 1), (0, 1, 5, 1), (1, 2, 6, 1), (0, 2, 9, 1)])

    def test_by_turns(self):
        told = [(2, 3, [0, 1]), (0, 9, [4])]
        self.assertEqual(self.look(self.book, (0, 0, 2, 9), 40), told)
        self.assertEqual(self.look(self.book, (0, 0, 2, 3), 40), told)
        self.assertEqual(self.look(self.book, (0, 0, 1, 2), 40), [(1, 2, [0]), (0, 5, [2])])
        self.assertEqual(self.look(self.book, (1, 0, 2, 9), 40), [(2, 3, [1]), (1, 6, [3])])

    def test_as_many_as_are_asked_for(self):
        told = [(2, 3, [0, 1]), (0, 9, [4])]
        for most in (0, 1, 2, 3, 40):
            self.assertEqual(self.look(self.book, (0, 0, 2, 9), most), told[:most])

    def test_forty(self):
        book = made_book([0, 0], [(0, 1, when, 1) for when in range(1, 61)])
        for most in (0, 1, 2, 39, 40):
            told = [(1 - number % 2, number + 1, [number]) for number in range(most)]
            self.assertEqual(self.look(book, (0, 0, 1, 9), most), told)
        self.assertEqual(len(self.look(book, (0, 19, 1, TOP), 40)), 40)
        self.assertEqual(len(self.look(book, (0, 20, 1, TOP), 40)), 40)
        self.assertEqual(len(self.look(book, (0, 21, 1, TOP), 40)), 39)
        self.assertEqual(len(self.look(book, (0, 59, 1, TOP), 40)), 1)

    def test_a_letter_without_a_chain(self):
        for most in (0, 1, 2, 40):
            self.assertEqual(self.look(self.book, (0, 0, 2, 2), most), [])
            self.assertEqual(self.look(self.book, (0, 9, 1, TOP), most), [])
            self.assertEqual(self.look(made_book([0, 0], []), (0, 0, 1, TOP), most), [])

    def test_last_counts_for_the_first_only(self):
        self.assertEqual(self.look(self.book, (0, 0, 1, 2), 2), [(1, 2, [0]), (0, 5, [2])])
        self.assertEqual(self.look(self.book, (0, 0, 1, 1), 2), [])
        book = made_book([0, 0], [(0, 1, 1, 1), (0, 1, TOP, 1)])
        self.assertEqual(self.look(book, (0, 0, 1, 1), 9), [(1, 1, [0]), (0, TOP, [1])])

    def test_that_it_was_given_tells_the_giver_nothing(self):
        # At 2 the sender gives it to its wish, and yet has its receipt at 5 only.
        book = made_book([0, 0], [(0, 1, 2, 1)])
        self.assertEqual(self.look(book, (0, 0, 1, 9), 40), [(1, 2, [0])])

    def test_the_sender_is_the_wish(self):
        for book in (self.book, made_book([0], [])):
            for most in (0, 1, 2, 40):
                self.assertEqual(self.look(book, (0, 4, 0, 4), most), [(0, 4, [])] * most)
                self.assertEqual(self.look(book, (0, 4, 0, 3), most), [])
            self.assertEqual(self.look(book, (0, TOP, 0, TOP), 2), [(0, TOP, [])] * 2)

    def test_each_time_is_the_earliest(self):
        lengths = []
        for number, book in enumerate(some_books(251, 150, 4, 8, 12)):
            for letter in some_letters(number, book, 4, 9):
                told = self.look(book, letter, 40)
                asked = letter
                for walker, time, chain in told:
                    self.assertEqual(time, min(end_of(book, asked, row) for row in all_chains(book, asked)))
                    asked = (asked[2], time, asked[0], TOP)
                if len(told) < 40:
                    self.assertEqual(all_chains(book, asked), [])
                for most in range(4):
                    self.assertEqual(self.look(book, letter, most), told[:most])
                lengths.append(len(told))
        for length in (0, 1, 2, 3, 40):
            self.assertGreater(lengths.count(length), 2)

    def test_twelve_walkers_and_sixty_meetings(self):
        for book in full_books(252, 8):
            for sender, wish in ((0, 11), (5, 2)):
                told = self.look(book, (sender, 0, wish, TOP), 40)
                since, giver, other = 0, sender, wish
                for walker, time, chain in told:
                    self.assertEqual(time, earliest_times(book, giver, since)[other])
                    since, giver, other = time, other, giver
                self.assertIsNone(earliest(book, (giver, since, other, TOP)))

    def test_what_is_told_is_the_askers_own(self):
        told = receipts(self.book, (0, 0, 2, 9), 40)
        told[0][2].append(7)
        told.clear()
        self.assertEqual(receipts(self.book, (0, 0, 2, 9), 40), [(2, 3, [0, 1]), (0, 9, [4])])
        told = receipts(self.book, (0, 0, 0, 9), 3)
        told[0][2].append(7)
        self.assertEqual(told[1:], [(0, 0, []), (0, 0, [])])


if __name__ == "__main__":
    unittest.main()
