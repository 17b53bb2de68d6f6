import unittest

from satchelmeet.books import made_book
from satchelmeet.changes import moved_to, part_of, turned, without
from satchelmeet.errors import NoBook, NoMeeting
from tests.helper import NO_WHOLES, TOP, some_books

ROOMS = [4, 0, 9, 1]
MEETINGS = [(0, 1, 3, 1), (2, 3, 3, 2), (1, 2, 7, 3), (0, 3, 9, 4)]


class Changes(unittest.TestCase):
    def setUp(self):
        self.book = made_book(ROOMS, MEETINGS)

    def tearDown(self):
        self.assertEqual(self.book, made_book(ROOMS, MEETINGS))

    def test_one_left_out(self):
        for number in range(4):
            rest = MEETINGS[:number] + MEETINGS[number + 1:]
            self.assertEqual(without(self.book, number), made_book(ROOMS, rest))

    def test_the_only_one_left_out(self):
        self.assertEqual(without(made_book([1, 1], [(0, 1, 5, 1)]), 0), ((1, 1), ()))

    def test_moved_behind_and_ahead(self):
        later = moved_to(self.book, 0, 8)
        self.assertEqual(later[1], ((2, 3, 3, 2), (1, 2, 7, 3), (0, 1, 8, 1), (0, 3, 9, 4)))
        sooner = moved_to(self.book, 3, 1)
        self.assertEqual(sooner[1], ((0, 3, 1, 4), (0, 1, 3, 1), (2, 3, 3, 2), (1, 2, 7, 3)))
        self.assertEqual(later[0], (4, 0, 9, 1))

    def test_moved_to_its_own_time(self):
        self.assertEqual(moved_to(self.book, 2, 7), self.book)

    def test_moved_to_the_bounds_of_a_when(self):
        self.assertEqual(moved_to(self.book, 2, 1)[1][0], (1, 2, 1, 3))
        self.assertEqual(moved_to(self.book, 2, TOP)[1][3], (1, 2, TOP, 3))

    def test_moved_to_where_it_makes_no_book(self):
        for when in [0, -1, TOP + 1, 10 ** 30, 3, 9] + NO_WHOLES:
            with self.assertRaises(NoBook):
                moved_to(self.book, 0 if when == 9 else 3, when)

    def test_a_number_of_no_meeting(self):
        for number in [-1, 4, 5, -10 ** 30, 10 ** 30] + NO_WHOLES:
            with self.assertRaises(NoMeeting):
                without(self.book, number)
            with self.assertRaises(NoMeeting):
                moved_to(self.book, number, 5)

    def test_no_meeting_goes_ahead_of_no_book(self):
        for number in [-1, 4, True, None]:
            for when in [0, TOP + 1, None, "5"]:
                with self.assertRaises(NoMeeting):
                    moved_to(self.book, number, when)

    def test_no_meeting_in_a_book_without_any(self):
        for number in [0, -1]:
            with self.assertRaises(NoMeeting):
                without(made_book([1], []), number)

    def test_part(self):
        cases = [(0, 2, []), (2, 3, [0, 1]), (3, 7, [2]), (3, 9, [2, 3]), (2, 8, [0, 1, 2]), (7, 3, []), (3, 3, [])]
        for behind, upto, numbers in cases:
            told = made_book(ROOMS, [MEETINGS[number] for number in numbers])
            self.assertEqual(part_of(self.book, behind, upto), told)

    def test_part_by_any_whole_numbers(self):
        self.assertEqual(part_of(self.book, -10 ** 30, 10 ** 30), self.book)
        self.assertEqual(part_of(self.book, -5, -1)[1], ())
        self.assertEqual(part_of(self.book, TOP, TOP + 1)[1], ())

    def test_part_at_no_whole_number(self):
        for thing in NO_WHOLES:
            with self.assertRaises(NoBook):
                part_of(self.book, thing, 5)
            with self.assertRaises(NoBook):
                part_of(self.book, 0, thing)

    def test_turned(self):
        told = ((4, 0, 9, 1), ((0, 3, 1, 4), (1, 2, 3, 3), (0, 1, 7, 1), (2, 3, 7, 2)))
        self.assertEqual(turned(self.book, 10), told)
        self.assertEqual(turned(self.book, TOP)[1][0], (0, 3, TOP - 9, 4))

    def test_turned_where_it_makes_no_book(self):
        for end in [9, 3, 0, -1, -10 ** 30, TOP + 1, 10 ** 30] + NO_WHOLES:
            with self.assertRaises(NoBook):
                turned(self.book, end)

    def test_turned_without_meetings(self):
        empty = made_book([3, 2], [])
        for end in [TOP, 1, 0, -1, -10 ** 30]:
            self.assertEqual(turned(empty, end), empty)
        for end in [TOP + 1, 10 ** 30] + NO_WHOLES:
            with self.assertRaises(NoBook):
                turned(empty, end)

    def test_many_books(self):
        for book in some_books(15, 60, 6, 15, 12):
            self.assertEqual(turned(turned(book, 13), 13), book)
            parts = part_of(book, 0, 5)[1] + part_of(book, 5, 12)[1]
            self.assertEqual(parts, book[1])
            for number in range(len(book[1])):
                left = without(book, number)
                self.assertEqual(left, (book[0], book[1][:number] + book[1][number + 1:]))
                moved = moved_to(book, number, 13)
                self.assertEqual(len(moved[1]), len(book[1]))
                self.assertEqual(part_of(moved, 0, 12), left)


if __name__ == "__main__":
    unittest.main()
