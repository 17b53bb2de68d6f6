import copy
import random
import unittest

from satchelmeet.alike import parting, thinned
from satchelmeet.books import made_book
from satchelmeet.changes import without
from satchelmeet.errors import NoBook
from satchelmeet.letters import is_letter
from satchelmeet.missed import lost
from satchelmeet.walls import earliest, earliest_times
from tests.helper import TOP, all_chains, full_books, some_books


def all_times(book):
    return [earliest_times(book, sender, 0) for sender in range(len(book[0]))]


class Parting(unittest.TestCase):
    def looked_at(self, book, other):
        """Looks at the letter that parts two books, and tells whether there is one."""
        kept = copy.deepcopy((book, other))
        letter = parting(book, other)
        self.assertEqual((book, other), kept)
        if letter is None:
            self.assertEqual(all_times(book), all_times(other))
            return False
        self.assertTrue(is_letter(book, letter))
        self.assertEqual(letter[1], 0)
        self.assertNotEqual(earliest(book, letter) is None, earliest(other, letter) is None)
        return True

    def test_a_book_and_itself(self):
        book = made_book([1, 2], [(0, 1, 3, 1)])
        self.assertIsNone(parting(book, book))

    def test_another_when(self):
        book = made_book([1, 2], [(0, 1, 3, 1)])
        other = made_book([1, 2], [(0, 1, 4, 1)])
        self.assertIn(parting(book, other), [(0, 0, 1, 3), (1, 0, 0, 3)])
        self.assertIn(parting(other, book), [(0, 0, 1, 3), (1, 0, 0, 3)])

    def test_a_meeting_in_just_one(self):
        book = made_book([1, 2], [(0, 1, 3, 1)])
        self.assertIn(parting(book, made_book([1, 2], [])), [(0, 0, 1, 3), (1, 0, 0, 3)])
        self.assertIn(parting(made_book([1, 2], []), book), [(0, 0, 1, 3), (1, 0, 0, 3)])

    def test_a_meeting_that_nobody_needs(self):
        book = made_book([1, 2], [(0, 1, 3, 1)])
        self.assertIsNone(parting(book, made_book([1, 2], [(0, 1, 3, 1), (0, 1, 7, 1)])))

    def test_rooms_and_manys_do_not_count(self):
        book = made_book([1, 2, 3], [(0, 1, 3, 1), (1, 2, 5, 9)])
        self.assertIsNone(parting(book, made_book([0, 99, 3], [(0, 1, 3, 99), (1, 2, 5, 1)])))

    def test_only_one_sender_parts(self):
        # Turned round: 2 has a way to 0 in one book alone.
        book = made_book([0] * 3, [(0, 1, 3, 1), (1, 2, 5, 1)])
        other = made_book([0] * 3, [(0, 1, 3, 1), (1, 2, 5, 1), (0, 1, 7, 1)])
        self.assertEqual(parting(book, other), (2, 0, 0, 7))

    def test_since_0_alone_counts(self):
        # With a since of 3 the second meeting would count; since 0 it does not.
        book = made_book([0, 0], [(0, 1, 3, 1)])
        self.assertIsNone(parting(book, made_book([0, 0], [(0, 1, 3, 1), (0, 1, 4, 1)])))

    def test_one_walker_and_no_meetings(self):
        self.assertIsNone(parting(made_book([3], []), made_book([0], [])))
        self.assertIsNone(parting(made_book([3] * 12, []), made_book([0] * 12, [])))

    def test_bounds_of_time(self):
        book = made_book([0, 0], [(0, 1, 1, 1)])
        other = made_book([0, 0], [(0, 1, TOP, 1)])
        self.assertIn(parting(other, made_book([0, 0], [])), [(0, 0, 1, TOP), (1, 0, 0, TOP)])
        self.assertIn(parting(other, book), [(0, 0, 1, 1), (1, 0, 0, 1)])

    def test_unlike_many_walkers(self):
        for one, other in ((1, 2), (2, 1), (11, 12), (12, 1)):
            with self.assertRaises(NoBook):
                parting(made_book([0] * one, []), made_book([0] * other, []))
        with self.assertRaises(NoBook):
            parting(made_book([0, 0], [(0, 1, 3, 1)]), made_book([0, 0, 0], [(0, 1, 3, 1)]))

    def test_many_books(self):
        told = []
        chance = random.Random(7)
        for book in some_books(51, 150, 5, 9, 9):
            if not book[1]:
                continue
            rest = without(book, chance.randrange(len(book[1])))
            told += [self.looked_at(book, rest), self.looked_at(rest, book)]
        self.assertEqual(set(told), {True, False})
        one = made_book([1] * 12, [])
        for book in full_books(6, 8):
            self.assertTrue(self.looked_at(one, book))
            one = book


class Thinned(unittest.TestCase):
    def looked_at(self, book):
        kept = copy.deepcopy(book)
        thin, letters = thinned(book)
        self.assertEqual(book, kept)
        self.assertEqual(made_book(list(thin[0]), list(thin[1])), thin)
        self.assertEqual(thin[0], book[0])
        self.assertTrue(set(thin[1]) <= set(book[1]))
        self.assertEqual(list(thin[1]), [meeting for meeting in book[1] if meeting in thin[1]])
        self.assertEqual(all_times(thin), all_times(book))
        self.assertIs(type(letters), list)
        self.assertEqual(len(letters), len(thin[1]))
        for number, letter in enumerate(letters):
            self.assertTrue(is_letter(thin, letter))
            self.assertEqual(letter[1], 0)
            self.assertEqual(lost(thin, [letter], number), [0])
        return thin

    def test_nothing_to_spare(self):
        book = made_book([4, 5, 6], [(0, 1, 3, 2), (1, 2, 5, 7)])
        self.assertEqual(self.looked_at(book), book)

    def test_a_second_meeting_is_spared(self):
        book = made_book([4, 5], [(0, 1, 3, 2), (0, 1, 5, 7), (0, 1, 8, 7)])
        self.assertEqual(thinned(book), (made_book([4, 5], [(0, 1, 3, 2)]), [thinned(book)[1][0]]))
        self.looked_at(book)

    def test_some_are_spared(self):
        book = made_book([0] * 3, [(0, 1, 1, 1), (1, 2, 2, 1), (0, 2, 2 + 1, 1), (0, 1, 9, 1)])
        thin = self.looked_at(book)
        self.assertNotIn((0, 1, 9, 1), thin[1])
        self.assertIn((0, 2, 3, 1), thin[1])

    def test_one_walker_and_no_meetings(self):
        self.assertEqual(thinned(made_book([3], [])), (((3,), ()), []))
        self.assertEqual(thinned(made_book([3, 4], [])), (((3, 4), ()), []))

    def test_the_asker_changes_the_letters(self):
        book = made_book([4, 5, 6], [(0, 1, 3, 2), (1, 2, 5, 7)])
        kept = copy.deepcopy(thinned(book))
        thinned(book)[1].clear()
        self.assertEqual(thinned(book), kept)

    def test_many_books(self):
        fewer = 0
        for book in some_books(52, 150, 5, 9, 9):
            fewer += len(self.looked_at(book)[1]) < len(book[1])
        self.assertGreater(fewer, 10)
        for book in full_books(5, 6):
            self.looked_at(book)

    def test_letters_hang_on_their_meeting_by_all_chains(self):
        for book in some_books(53, 40, 4, 7, 7):
            thin, letters = thinned(book)
            for number, letter in enumerate(letters):
                chains = all_chains(thin, letter)
                self.assertTrue(chains)
                self.assertTrue(all(number in chain for chain in chains))


if __name__ == "__main__":
    unittest.main()
