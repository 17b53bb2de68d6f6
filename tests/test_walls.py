import copy
import itertools
import unittest

from satchelmeet.books import made_book
from satchelmeet.chains import arrival, is_chain
from satchelmeet.walls import bars, earliest, earliest_times
from tests.helper import NO_WHOLES, TOP, all_chains, end_of, full_books, odd_rows, some_books, some_letters

# Two meetings are at one time, 5; walker 5 meets nobody.
MEETINGS = [(0, 1, 3, 1), (1, 2, 5, 1), (3, 4, 5, 1), (2, 3, 8, 1)]


class EarliestTimes(unittest.TestCase):
    def setUp(self):
        self.book = made_book([0] * 6, MEETINGS)

    def test_times_and_never(self):
        self.assertEqual(earliest_times(self.book, 0, 0), [0, 3, 5, 8, None, None])
        self.assertEqual(earliest_times(self.book, 4, 2), [None, None, 8, 5, 2, None])
        self.assertEqual(earliest_times(self.book, 5, 7), [None, None, None, None, None, 7])

    def test_since_at_a_when_and_one_beside_it(self):
        self.assertEqual(earliest_times(self.book, 0, 2), [2, 3, 5, 8, None, None])
        self.assertEqual(earliest_times(self.book, 0, 3), [3, None, None, None, None, None])
        self.assertEqual(earliest_times(self.book, 1, 3), [None, 3, 5, 8, None, None])
        self.assertEqual(earliest_times(self.book, 1, TOP)[1], TOP)

    def test_the_senders_own_since_stays(self):
        book = made_book([1, 1], [(0, 1, 3, 1), (0, 1, 4, 1), (0, 1, 9, 1)])
        self.assertEqual(earliest_times(book, 0, 2), [2, 3])
        self.assertEqual(earliest_times(book, 0, 3), [3, 4])
        self.assertEqual(earliest_times(book, 0, 5), [5, 9])

    def test_meetings_of_one_time_follow_each_other(self):
        # At 4 the letter goes from 0 to 3; at the same 4 the pair (1, 2) meets, numbered behind it.
        book = made_book([1] * 4, [(0, 3, 4, 1), (1, 2, 4, 1), (2, 3, 5, 1), (0, 1, 5, 1)])
        self.assertEqual(earliest_times(book, 0, 0), [0, 5, 5, 4])
        self.assertEqual(earliest_times(book, 2, 0), [5, 4, 0, 5])

    def test_rooms_and_manys_do_not_count(self):
        book = made_book([99] * 6, [row[:3] + (99,) for row in MEETINGS])
        self.assertEqual(earliest_times(book, 0, 0), earliest_times(self.book, 0, 0))

    def test_one_walker(self):
        self.assertEqual(earliest_times(made_book([0], []), 0, 4), [4])

    def test_a_list_of_its_own_each_time(self):
        told = earliest_times(self.book, 0, 0)
        told[0] = 99
        told.append(1)
        self.assertEqual(earliest_times(self.book, 0, 0), [0, 3, 5, 8, None, None])

    def test_many_books(self):
        for book in some_books(33, 80, 5, 8, 8):
            for sender, since in itertools.product(range(len(book[0])), [0, 2, 4, 8]):
                times = earliest_times(book, sender, since)
                self.assertEqual(len(times), len(book[0]))
                for wish, time in enumerate(times):
                    letter = (sender, since, wish, TOP)
                    ends = [end_of(book, letter, chain) for chain in all_chains(book, letter)]
                    self.assertEqual(time, min(ends, default=None))


class Earliest(unittest.TestCase):
    def setUp(self):
        self.book = made_book([0] * 6, MEETINGS)

    def test_chains(self):
        self.assertEqual(earliest(self.book, (0, 0, 3, 8)), [0, 1, 3])
        self.assertEqual(earliest(self.book, (4, 4, 2, 8)), [2, 3])

    def test_last_at_the_arrival_and_one_below(self):
        self.assertEqual(earliest(self.book, (0, 0, 2, 5)), [0, 1])
        self.assertIsNone(earliest(self.book, (0, 0, 2, 4)))

    def test_never(self):
        self.assertIsNone(earliest(self.book, (0, 0, 4, TOP)))
        self.assertIsNone(earliest(self.book, (0, 3, 1, TOP)))

    def test_sender_is_the_wish(self):
        self.assertEqual(earliest(self.book, (0, 5, 0, 5)), [])
        self.assertIsNone(earliest(self.book, (0, 5, 0, 4)))
        book = made_book([1, 1], [(0, 1, 3, 1), (0, 1, 4, 1)])
        self.assertEqual(earliest(book, (0, 0, 0, 9)), [])

    def test_not_the_fewest_where_that_is_later(self):
        book = made_book([1] * 3, [(0, 1, 2, 1), (1, 2, 3, 1), (0, 2, 4, 1)])
        self.assertEqual(earliest(book, (0, 0, 2, 9)), [0, 1])

    def test_a_list_of_its_own_each_time(self):
        earliest(self.book, (0, 0, 3, 8)).clear()
        self.assertEqual(earliest(self.book, (0, 0, 3, 8)), [0, 1, 3])

    def test_what_is_no_letter_has_no_chain(self):
        for letter in [(0, 0, 6, 9), (6, 0, 0, 9), (0, 0, -1, 9), (-1, 0, 0, 9)]:
            self.assertIsNone(earliest(self.book, letter))


class Bars(unittest.TestCase):
    def setUp(self):
        # The letter is one that comes at 5, a time behind its last.
        self.book = made_book([0] * 4, [(0, 1, 3, 1), (1, 2, 5, 1), (2, 3, 8, 1)])
        self.letter = (0, 1, 2, 4)

    def says(self, thing, answer, letter=None):
        kept = copy.copy(thing)
        self.assertIs(bars(self.book, letter or self.letter, thing), answer, thing)
        self.assertEqual(thing, kept)

    def test_earliest_times(self):
        self.says([1, 3, 5, 8], True)

    def test_numbers_that_are_no_earliest_times(self):
        self.says([0, 3, 5, 8], True)
        self.says([-7, 2, 5, 6], True)
        self.says([-10 ** 30, -10 ** 30, 5, -10 ** 30], True)
        self.says([1, 3, 5, 0], True)
        self.says([1, 0, 5, 8], True)

    def test_the_senders_is_a_number_of_at_most_since(self):
        self.says([2, 3, 5, 8], False)
        self.says([3, None, None, None], False)
        self.says([None, None, None, None], False)

    def test_the_wishes_is_none_or_above_last(self):
        self.says([1, 3, 4, 8], False)
        self.says([1, 3, -5, 8], False)
        self.says([1, 3, 4, 8], True, (0, 1, 2, 3))

    def test_at_a_meeting_the_others_is_a_number(self):
        self.says([1, None, None, None], False)
        self.says([1, 3, None, None], False)
        self.says([1, 3, 5, None], False)

    def test_at_a_meeting_the_others_is_at_most_its_when(self):
        self.says([1, 4, 5, 8], False)
        self.says([1, 3, 6, 8], False)
        self.says([1, 3, 5, 9], False)

    def test_either_way(self):
        # What walker 3 has below 8, it may give back to 2 at 8.
        letter = (3, 1, 0, TOP)
        self.says([None, None, 8, 1], True, letter)
        self.says([None, None, 9, 1], False, letter)
        self.says([None, None, None, 1], False, letter)

    def test_a_giver_whose_number_is_the_when_gives_nothing(self):
        letter = (0, 3, 2, TOP)
        self.says([3, None, None, None], True, letter)
        self.says([2, None, None, None], False, letter)

    def test_a_wall_of_none_and_numbers_below_0(self):
        book = made_book([1] * 3, [(0, 1, 1, 1)])
        self.assertIs(bars(book, (0, 0, 2, TOP), [-1, 1, None]), True)
        self.assertIs(bars(book, (0, 0, 2, TOP), [-1, -1, None]), True)
        self.assertIs(bars(book, (0, 0, 2, TOP), [-1, -1, TOP + 1]), True)
        self.assertIs(bars(book, (0, 0, 2, TOP), [-1, -1, TOP]), False)
        self.assertIs(bars(book, (0, 0, 2, TOP), [-1, None, None]), False)

    def test_sender_is_the_wish(self):
        book = made_book([1], [])
        self.assertIs(bars(book, (0, 5, 0, 4), [5]), True)
        self.assertIs(bars(book, (0, 5, 0, 4), [4]), False)
        self.assertIs(bars(book, (0, 5, 0, 4), [6]), False)
        self.assertIs(bars(book, (0, 5, 0, 5), [5]), False)
        self.assertIs(bars(book, (0, 5, 0, 4), [None]), False)

    def test_anything(self):
        for thing in odd_rows([1, 3, 5, 8]):
            self.says(thing, False)
        book = made_book([1, 1], [])
        self.assertIs(bars(book, (0, 1, 1, 1), [1, None]), True)
        self.assertIs(bars(book, (0, 1, 1, 1), [True, None]), False)

    def test_what_is_no_letter_has_no_wall(self):
        odd = [[0, 1, 2, 4], (0, 1, 2), (0, 1, 4, 4), (-1, 1, 2, 4), (0, 1, 2, -1), (0, True, 2, 4)]
        for letter in odd + [thing for thing in NO_WHOLES if thing]:
            self.says([1, 3, 5, 8], False, letter)

    def test_each_row_of_small_numbers(self):
        book = made_book([1] * 3, [(0, 1, 1, 1), (1, 2, 2, 1), (0, 2, 3, 1)])
        values = [None, -1, 0, 1, 2, 3, 4]
        for letter in itertools.product(range(3), range(3), range(3), range(4)):
            chains = all_chains(book, letter)
            for row in itertools.product(values, repeat=3):
                right = self.is_wall(book, letter, row)
                self.assertIs(bars(book, letter, list(row)), right)
                self.assertFalse(right and chains)

    def is_wall(self, book, letter, row):
        sender, since, wish, last = letter
        holds = [row[sender] is not None and row[sender] <= since, row[wish] is None or row[wish] > last]
        for one, other, when, many in book[1]:
            for giver, taker in [(one, other), (other, one)]:
                if row[giver] is not None and row[giver] < when:
                    holds.append(row[taker] is not None and row[taker] <= when)
        return all(holds)


class ChainOrWall(unittest.TestCase):
    def look(self, book, letter):
        chain = earliest(book, letter)
        times = earliest_times(book, letter[0], letter[1])
        if chain is None:
            self.assertIs(bars(book, letter, times), True)
        else:
            self.assertIs(is_chain(book, letter, chain), True)
            self.assertEqual(arrival(book, letter, chain), times[letter[2]])
            self.assertIs(bars(book, letter, times), False)
            # One time less, and the same times are a wall: none is earlier.
            if times[letter[2]] > 0:
                self.assertIs(bars(book, letter[:3] + (times[letter[2]] - 1,), times), True)
        return chain

    def test_small_books(self):
        for seed, book in enumerate(some_books(45, 120, 5, 8, 7)):
            for letter in some_letters(seed, book, 12, 9):
                chain = self.look(book, letter)
                self.assertEqual(chain is None, all_chains(book, letter) == [])

    def test_full_books(self):
        found = set()
        for seed, book in enumerate(full_books(5, 20)):
            kept = copy.deepcopy(book)
            top = max(row[2] for row in book[1])
            for letter in some_letters(seed, book, 60, top):
                found.add(self.look(book, letter) is None)
            self.assertEqual(book, kept)
        self.assertEqual(found, {True, False})

    def test_one_walker(self):
        book = made_book([0], [])
        self.assertEqual(self.look(book, (0, 0, 0, 0)), [])
        self.assertIsNone(self.look(book, (0, TOP, 0, TOP - 1)))


if __name__ == "__main__":
    unittest.main()
