import unittest

from satchelmeet.books import made_book
from satchelmeet.newest import all_hear, newest
from satchelmeet.walls import earliest, earliest_times
from tests.helper import TOP, all_chains, full_books, some_books


def newest_by_letters(book, time, comes):
    """By a look at the letters of all sinces up to a small time."""
    rows = []
    for walker in range(len(book[0])):
        row = []
        for other in range(len(book[0])):
            sinces = [since for since in range(time + 1) if comes(book, (other, since, walker, time))]
            row.append(max(sinces, default=None))
        rows.append(row)
    return rows


def comes_by_chains(book, letter):
    return bool(all_chains(book, letter))


def comes_early(book, letter):
    return earliest(book, letter) is not None


class Newest(unittest.TestCase):
    def look(self, book, time):
        kept = repr(book)
        rows = newest(book, time)
        self.assertEqual(repr(book), kept)
        self.assertIsInstance(rows, list)
        self.assertEqual(len(rows), len(book[0]))
        for walker, row in enumerate(rows):
            self.assertIsInstance(row, list)
            self.assertEqual(len(row), len(book[0]))
            self.assertEqual(row[walker], time)
        return rows

    def setUp(self):
        self.book = made_book([0] * 4, [(0, 1, 3, 1), (1, 2, 8, 1), (0, 1, 9, 1)])

    def test_some(self):
        self.assertEqual(self.look(self.book, 9), [[9, 8, 7, None], [8, 9, 7, None], [2, 7, 9, None], [None, None, None, 9]])
        self.assertEqual(self.look(self.book, 8), [[8, 2, None, None], [2, 8, 7, None], [2, 7, 8, None], [None, None, None, 8]])
        self.assertEqual(self.look(self.book, 3), [[3, 2, None, None], [2, 3, None, None], [None, None, 3, None],
                                                   [None, None, None, 3]])

    def test_times_at_their_bounds(self):
        self.assertEqual(self.look(self.book, 0), [[0 if one == other else None for one in range(4)] for other in range(4)])
        self.assertEqual(self.look(self.book, 2), [[2 if one == other else None for one in range(4)] for other in range(4)])
        self.assertEqual(self.look(self.book, TOP), [[TOP, 8, 7, None], [8, TOP, 7, None], [2, 7, TOP, None],
                                                     [None, None, None, TOP]])
        book = made_book([0] * 2, [(0, 1, 1, 1)])
        self.assertEqual(self.look(book, 1), [[1, 0], [0, 1]])
        self.assertEqual(self.look(book, 0), [[0, None], [None, 0]])
        book = made_book([0] * 2, [(0, 1, TOP, 1)])
        self.assertEqual(self.look(book, TOP), [[TOP, TOP - 1], [TOP - 1, TOP]])
        self.assertEqual(self.look(book, TOP - 1), [[TOP - 1, None], [None, TOP - 1]])

    def test_one_walker_and_no_meetings(self):
        for time in (0, 5, TOP):
            self.assertEqual(self.look(made_book([0], []), time), [[time]])
            self.assertEqual(self.look(made_book([0, 9], []), time), [[time, None], [None, time]])

    def test_by_all_letters(self):
        for book in some_books(301, 30, 4, 6, 6):
            for time in (0, 3, 6, 8):
                self.assertEqual(self.look(book, time), newest_by_letters(book, time, comes_by_chains))
        for book in some_books(302, 60, 6, 12, 10):
            for time in (1, 5, 12):
                self.assertEqual(self.look(book, time), newest_by_letters(book, time, comes_early))

    def test_twelve_walkers_and_sixty_meetings(self):
        for book in full_books(303, 6):
            for time in (book[1][30][2], TOP):
                for walker, row in enumerate(self.look(book, time)):
                    for other, since in enumerate(row):
                        if since is None:
                            self.assertIsNone(earliest(book, (other, 0, walker, time)))
                        else:
                            self.assertIsNotNone(earliest(book, (other, since, walker, time)))
                            if other != walker:
                                self.assertIsNone(earliest(book, (other, since + 1, walker, time)))

    def test_what_is_told_is_the_askers_own(self):
        rows = newest(self.book, 9)
        rows[0][0] = 4
        rows[1].clear()
        self.assertEqual(self.look(self.book, 9)[:2], [[9, 8, 7, None], [8, 9, 7, None]])


class AllHear(unittest.TestCase):
    def setUp(self):
        self.book = made_book([0] * 3, [(0, 1, 3, 1), (1, 2, 8, 1), (0, 1, 9, 1)])

    def test_some(self):
        self.assertEqual(all_hear(self.book, 0, 0), 8)
        self.assertEqual(all_hear(self.book, 0, 2), 8)
        self.assertIsNone(all_hear(self.book, 0, 3))
        self.assertEqual(all_hear(self.book, 1, 3), 9)
        self.assertEqual(all_hear(self.book, 1, 7), 9)
        self.assertIsNone(all_hear(self.book, 1, 8))
        self.assertEqual(all_hear(self.book, 2, 0), 9)
        self.assertEqual(all_hear(self.book, 2, 7), 9)
        self.assertIsNone(all_hear(self.book, 2, 8))

    def test_one_walker(self):
        for time in (0, 5, TOP):
            self.assertEqual(all_hear(made_book([0], []), 0, time), time)

    def test_without_meetings(self):
        for time in (0, 5, TOP):
            self.assertIsNone(all_hear(made_book([0, 0], []), 1, time))

    def test_some_never_hear(self):
        self.assertIsNone(all_hear(made_book([0] * 4, list(self.book[1])), 0, 0))
        self.assertIsNone(all_hear(self.book, 0, TOP))

    def test_bounds_of_time(self):
        book = made_book([0] * 2, [(0, 1, 1, 1), (0, 1, TOP, 1)])
        self.assertEqual(all_hear(book, 0, 0), 1)
        self.assertEqual(all_hear(book, 0, 1), TOP)
        self.assertEqual(all_hear(book, 1, TOP - 1), TOP)
        self.assertIsNone(all_hear(book, 1, TOP))

    def test_the_least_such_time(self):
        found = []
        for book in some_books(304, 120, 4, 8, 7):
            for walker in range(len(book[0])):
                for time in (0, 1, 4, 9):
                    kept = repr(book)
                    told = all_hear(book, walker, time)
                    self.assertEqual(repr(book), kept)
                    others = range(len(book[0]))
                    times = [least for least in range(time, 10)
                             if all(all_chains(book, (walker, time, other, least)) for other in others)]
                    self.assertEqual(told, min(times, default=None))
                    found.append(told)
        self.assertGreater(len([told for told in found if told is not None]), 40)
        self.assertGreater(found.count(None), 40)

    def test_twelve_walkers_and_sixty_meetings(self):
        for book in full_books(305, 6):
            for walker in (0, 5, 11):
                told = all_hear(book, walker, 0)
                reached = [other for other in range(12) if told and earliest(book, (walker, 0, other, told))]
                if told is None:
                    self.assertIn(None, earliest_times(book, walker, 0))
                else:
                    self.assertEqual(len(reached), 11)
                    self.assertIn(None, [earliest(book, (walker, 0, other, told - 1)) for other in range(12)])


if __name__ == "__main__":
    unittest.main()
