import random
import unittest

from satchelmeet.books import made_book
from satchelmeet.days import again_times, hangs_with
from satchelmeet.waits import waits
from tests.helper import full_books
from tests.test_days import LONG, day_books, times_by_words


def arrival_of(told, since):
    """The arrival of the stretch in which a since lies."""
    return [time for first, time in told if first <= since][-1]


class Waits(unittest.TestCase):
    def look(self, book, day, walker, other):
        """What is told, looked at from all sides but for the arrivals."""
        kept = repr(book)
        told = waits(book, day, walker, other)
        self.assertEqual(repr(book), kept)
        if other not in hangs_with(book, walker):
            self.assertIsNone(told)
            return told
        self.assertIsInstance(told, list)
        for part in told:
            self.assertIsInstance(part, tuple)
            self.assertEqual(len(part), 2)
        self.assertEqual(told[0][0], 0)
        for (since, time), (later, after) in zip(told, told[1:]):
            self.assertLess(since, later)
            self.assertLess(time, after)
        self.assertLess(told[-1][0], day)
        return told

    def test_one_meeting(self):
        book = made_book([0] * 3, [(0, 1, 3, 1)])
        self.assertEqual(self.look(book, 5, 0, 1), [(0, 3), (3, 8)])
        self.assertEqual(self.look(book, 5, 1, 0), [(0, 3), (3, 8)])
        # A since at the day itself is of the next day.
        self.assertEqual(self.look(book, 3, 0, 1), [(0, 3)])
        self.assertEqual(self.look(book, 4, 0, 1), [(0, 3), (3, 7)])
        self.assertIsNone(self.look(book, 5, 0, 2))
        self.assertIsNone(self.look(book, 5, 2, 0))
        self.assertEqual(self.look(made_book([0, 0], [(0, 1, 1, 1)]), 1, 0, 1), [(0, 1)])

    def test_several_meetings(self):
        book = made_book([0] * 3, [(0, 1, 3, 1), (1, 2, 5, 1), (0, 1, 7, 1)])
        self.assertEqual(self.look(book, 9, 0, 1), [(0, 3), (3, 7), (7, 12)])
        self.assertEqual(self.look(book, 9, 0, 2), [(0, 5), (3, 14)])
        self.assertEqual(self.look(book, 9, 2, 0), [(0, 7), (5, 16)])
        self.assertEqual(self.look(book, 9, 1, 2), [(0, 5), (5, 14)])

    def test_a_meeting_that_changes_nothing(self):
        # By 0's meetings at 1, 2 and 4 it comes at 6 all the same.
        book = made_book([0] * 4, [(0, 1, 1, 1), (0, 2, 2, 1), (0, 1, 4, 1), (1, 2, 5, 1), (2, 3, 6, 1)])
        self.assertEqual(self.look(book, 8, 0, 3), [(0, 6), (4, 14)])

    def test_without_meetings(self):
        self.assertIsNone(self.look(made_book([0, 0], []), 1, 0, 1))
        self.assertIsNone(self.look(made_book([0, 0], []), LONG, 1, 0))

    def test_all_sinces_of_small_days(self):
        lengths = []
        for book, day in day_books(241, 120, 5, 8, 9):
            for walker in range(len(book[0])):
                times = [times_by_words(book, day, walker, since) for since in range(day)]
                for other in range(len(book[0])):
                    if walker != other:
                        told = self.look(book, day, walker, other)
                        lengths.append(0 if told is None else len(told))
                        for since in range(day):
                            self.assertEqual(arrival_of(told, since) if told else None, times[since][other])
        for length in range(4):
            self.assertGreater(lengths.count(length), 5)

    def test_great_days(self):
        chance = random.Random(242)
        lengths = []
        for book, day in day_books(243, 60, 8, 30, LONG - 7):
            for day in (day, LONG):
                told = self.look(book, day, 0, len(book[0]) - 1) if len(book[0]) > 1 else None
                if told is None:
                    continue
                lengths.append(len(told))
                sinces = [0, day - 1] + [chance.randrange(day) for trial in range(5)]
                for one, other, when, many in book[1]:
                    sinces += [since for since in (when - 1, when, when + 1) if since < day]
                for since in sinces:
                    self.assertEqual(arrival_of(told, since), again_times(book, day, 0, since)[len(book[0]) - 1])
        self.assertGreater(max(lengths), 3)

    def test_twelve_walkers_and_sixty_meetings(self):
        for book in full_books(244, 6):
            if book[1][-1][2] <= LONG:
                for day in (book[1][-1][2], LONG):
                    told = self.look(book, day, 3, 8)
                    for since in {meeting[2] for meeting in book[1]} | {0, day - 1}:
                        if since < day:
                            self.assertEqual(arrival_of(told, since), again_times(book, day, 3, since)[8])

    def test_what_is_told_is_the_askers_own(self):
        book = made_book([0] * 3, [(0, 1, 3, 1)])
        told = waits(book, 5, 0, 1)
        told.clear()
        self.assertEqual(waits(book, 5, 0, 1), [(0, 3), (3, 8)])


if __name__ == "__main__":
    unittest.main()
