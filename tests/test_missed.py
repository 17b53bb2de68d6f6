import copy
import random
import unittest

from satchelmeet.books import made_book
from satchelmeet.chains import is_chain
from satchelmeet.changes import without
from satchelmeet.errors import NoMeeting
from satchelmeet.missed import lost, stands
from satchelmeet.walls import bars, earliest
from tests.helper import NO_WHOLES, TOP, all_chains, full_books, some_books, some_letters

MEETINGS = [(0, 1, 3, 1), (1, 2, 5, 1), (0, 2, 6, 1), (2, 3, 8, 1)]


class Lost(unittest.TestCase):
    def setUp(self):
        self.book = made_book([0] * 5, MEETINGS)
        self.letters = [(0, 0, 3, 9), (0, 0, 2, 9), (0, 0, 2, 5), (3, 0, 2, 9), (0, 0, 1, 3), (0, 0, 1, 2), (4, 0, 0, 9)]

    def test_numbers_rising(self):
        self.assertEqual(lost(self.book, self.letters, 3), [0, 3])
        self.assertEqual(lost(self.book, self.letters, 0), [2, 4])
        self.assertEqual(lost(self.book, self.letters, 1), [2])
        self.assertEqual(lost(self.book, self.letters, 2), [])

    def test_a_letter_twice(self):
        letter = (0, 0, 3, 9)
        self.assertEqual(lost(self.book, [letter, (0, 0, 2, 9), letter], 3), [0, 2])

    def test_sender_is_the_wish(self):
        book = made_book([1, 1], [(0, 1, 3, 1), (0, 1, 4, 1)])
        self.assertEqual(lost(book, [(0, 0, 0, 9), (0, 5, 0, 5), (0, 5, 0, 4), (0, 0, 0, 0)], 0), [])
        self.assertEqual(lost(book, [(0, 0, 0, 9), (0, 5, 0, 4)], 1), [])

    def test_no_letters(self):
        self.assertEqual(lost(self.book, [], 0), [])

    def test_no_meeting(self):
        for number in NO_WHOLES + [-1, 4, 10 ** 30, -10 ** 30]:
            for letters in ([], self.letters):
                with self.assertRaises(NoMeeting):
                    lost(self.book, letters, number)

    def test_no_meeting_ahead_of_all_else(self):
        for letters in (None, 5, ["x"], [(9, 9, 9, 9)]):
            with self.assertRaises(NoMeeting):
                lost(self.book, letters, 4)
        with self.assertRaises(NoMeeting):
            lost(made_book([1], []), [], 0)

    def test_meeting_of_0_and_of_the_last_number(self):
        self.assertEqual(lost(self.book, [(0, 0, 1, 9)], 0), [0])
        self.assertEqual(lost(self.book, [(2, 0, 3, 9)], 3), [0])

    def test_what_is_handed_in_stays(self):
        kept = copy.deepcopy((self.book, self.letters))
        told = lost(self.book, self.letters, 3)
        told.append(9)
        self.assertEqual((self.book, self.letters), kept)
        self.assertEqual(lost(self.book, self.letters, 3), [0, 3])

    def test_small_books(self):
        for place, book in enumerate(some_books(91, 80, 4, 7, 7)):
            letters = some_letters(place, book, 12, 8)
            for number in range(len(book[1])):
                told = []
                for at, letter in enumerate(letters):
                    chains = all_chains(book, letter)
                    if chains and all(number in chain for chain in chains):
                        told.append(at)
                self.assertEqual(lost(book, letters, number), told)

    def test_forty_letters_and_sixty_meetings(self):
        for place, book in enumerate(full_books(13, 5)):
            letters = some_letters(place, book, 40, book[1][-1][2])
            for number in (0, 17, 59):
                told = lost(book, letters, number)
                rest = without(book, number)
                for at, letter in enumerate(letters):
                    hangs = earliest(book, letter) is not None and earliest(rest, letter) is None
                    self.assertEqual(at in told, hangs)


class Stands(unittest.TestCase):
    def looked_at(self, book, letter):
        """Looks at what is told, by the document's words, and tells its first part."""
        kept = copy.deepcopy((book, letter))
        told = stands(book, letter)
        self.assertEqual((book, letter), kept)
        self.assertIs(type(told), tuple)
        if told[0] == "two":
            kind, one, other = told
            self.assertTrue(is_chain(book, letter, one))
            self.assertTrue(is_chain(book, letter, other))
            self.assertEqual(set(one) & set(other), set())
        elif told[0] == "one":
            kind, number, wall = told
            self.assertTrue(bars(without(book, number), letter, wall))
            self.assertIsNotNone(earliest(book, letter))
        else:
            kind, wall = told
            self.assertEqual(kind, "none")
            self.assertTrue(bars(book, letter, wall))
        return told[0]

    def test_two(self):
        book = made_book([0] * 4, MEETINGS)
        self.assertEqual(stands(book, (0, 0, 2, 9))[0], "two")
        self.assertEqual(sorted(stands(book, (0, 0, 2, 9))[1:]), [[0, 1], [2]])
        self.looked_at(book, (0, 0, 2, 9))

    def test_one(self):
        book = made_book([0] * 4, MEETINGS)
        self.assertEqual(stands(book, (0, 0, 3, 9))[:2], ("one", 3))
        self.assertEqual(stands(book, (1, 0, 2, 5))[:2], ("one", 1))
        self.looked_at(book, (0, 0, 3, 9))
        self.looked_at(book, (1, 0, 2, 5))

    def test_last_bars_the_other_chain(self):
        book = made_book([0] * 4, MEETINGS)
        self.assertEqual(stands(book, (0, 0, 2, 6))[0], "two")
        self.assertEqual(self.looked_at(book, (0, 0, 2, 5)), "one")
        self.assertIn(stands(book, (0, 0, 2, 5))[1], [0, 1])
        self.assertEqual(self.looked_at(book, (0, 2, 2, 6)), "two")
        self.assertEqual(stands(book, (0, 3, 2, 6))[:2], ("one", 2))

    def test_none(self):
        book = made_book([0] * 5, MEETINGS)
        self.assertEqual(stands(book, (0, 0, 4, 9))[0], "none")
        self.assertEqual(self.looked_at(book, (0, 0, 2, 4)), "none")
        self.assertEqual(self.looked_at(book, (0, 6, 1, 9)), "none")
        self.assertEqual(self.looked_at(made_book([0, 0], []), (0, 0, 1, TOP)), "none")

    def test_sender_is_the_wish(self):
        for meetings in ([], [(0, 1, 3, 1)], [(0, 1, 3, 1), (0, 1, 4, 1)]):
            book = made_book([1, 1], meetings)
            self.assertEqual(stands(book, (0, 2, 0, 2)), ("two", [], []))
            self.assertEqual(stands(book, (0, 2, 0, 9)), ("two", [], []))
            self.assertEqual(self.looked_at(book, (0, 2, 0, 1)), "none")
        self.assertEqual(stands(made_book([0], []), (0, 0, 0, 0)), ("two", [], []))

    def test_the_two_empty_chains_are_two_lists(self):
        kind, one, other = stands(made_book([1], []), (0, 0, 0, 9))
        one.append(1)
        self.assertEqual(other, [])

    def test_chains_that_would_cross(self):
        # The earliest chain goes by 1 and 3; two that share nothing must part from it.
        book = made_book([0] * 5, [(0, 1, 1, 1), (1, 3, 2, 1), (0, 2, 3, 1), (3, 4, 4, 1), (2, 3, 5, 1), (1, 4, 6, 1), (3, 4, 7, 1)])
        self.assertEqual(self.looked_at(book, (0, 0, 4, 9)), "two")
        book = made_book([0] * 4, [(0, 1, 1, 1), (0, 2, 2, 1), (1, 2, 3, 1), (1, 3, 4, 1), (2, 3, 5, 1)])
        self.assertEqual(self.looked_at(book, (0, 0, 3, 9)), "two")

    def test_one_meeting_gives_but_once(self):
        # Both chains of 0 to 3 need the meeting of 1 and 2, be it in one way or in the other.
        book = made_book([0] * 4, [(0, 1, 1, 1), (1, 2, 3, 1), (2, 3, 4, 1), (2, 3, 5, 1)])
        self.assertEqual(self.looked_at(book, (0, 0, 3, 9)), "one")

    def test_the_asker_changes_what_was_told(self):
        book = made_book([0] * 4, MEETINGS)
        for letter in [(0, 0, 2, 9), (0, 0, 3, 9), (0, 0, 2, 4), (0, 0, 0, 9)]:
            kept = copy.deepcopy(stands(book, letter))
            stands(book, letter)[-1].append(77)
            self.assertEqual(stands(book, letter), kept)

    def test_small_books(self):
        seen = set()
        for place, book in enumerate(some_books(92, 250, 5, 9, 9)):
            for letter in some_letters(place, book, 6, 10):
                told = self.looked_at(book, letter)
                chains = all_chains(book, letter)
                if not chains:
                    self.assertEqual(told, "none")
                elif [number for number in range(len(book[1])) if all(number in chain for chain in chains)]:
                    number = stands(book, letter)[1]
                    self.assertEqual(told, "one")
                    self.assertTrue(all(number in chain for chain in chains))
                else:
                    self.assertEqual(told, "two")
                seen.add(told)
        self.assertEqual(seen, {"two", "one", "none"})

    def test_sixty_meetings(self):
        chance = random.Random(4)
        seen = set()
        for book in full_books(21, 12):
            top = book[1][-1][2]
            for trial in range(25):
                sender, wish = chance.sample(range(12), 2)
                since = chance.randint(0, top)
                seen.add(self.looked_at(book, (sender, since, wish, chance.randint(since, top))))
        self.assertEqual(seen, {"two", "one", "none"})

    def test_meetings_at_both_bounds_of_time(self):
        book = made_book([0, 0], [(0, 1, 1, 1), (0, 1, TOP, 1)])
        self.assertEqual(self.looked_at(book, (0, 0, 1, TOP)), "two")
        self.assertEqual(self.looked_at(book, (0, 1, 1, TOP)), "one")
        self.assertEqual(self.looked_at(book, (0, 0, 1, TOP - 1)), "one")


if __name__ == "__main__":
    unittest.main()
