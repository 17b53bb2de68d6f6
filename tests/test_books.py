import copy
import itertools
import random
import unittest

from satchelmeet.books import by_time, made_book, meetings_of
from satchelmeet.errors import NoBook
from tests.helper import NO_WHOLES, TOP, some_books, some_meetings


def sixty():
    return [(0, 1, when, 1) for when in range(1, 61)]


class Told(unittest.TestCase):
    def test_order_of_meetings_and_walkers(self):
        book = made_book([3, 0, 99, 1], [(3, 2, 5, 7), (1, 0, 9, 1), (1, 0, 5, 2), (2, 0, 1, 99)])
        self.assertEqual(book, ((3, 0, 99, 1), ((0, 2, 1, 99), (0, 1, 5, 2), (2, 3, 5, 7), (0, 1, 9, 1))))

    def test_meetings_of_one_time_go_by_their_first_walker(self):
        meetings = [(7, 1, 4, 9), (6, 0, 4, 1), (5, 2, 4, 99), (3, 4, 4, 50)]
        told = ((0, 6, 4, 1), (1, 7, 4, 9), (2, 5, 4, 99), (3, 4, 4, 50))
        for order in itertools.permutations(meetings):
            self.assertEqual(made_book([1] * 8, list(order))[1], told)

    def test_tuples_throughout(self):
        book = made_book([1, 2], [(1, 0, 3, 4)])
        self.assertIs(type(book), tuple)
        self.assertEqual([type(part) for part in book], [tuple, tuple])
        self.assertIs(type(book[1][0]), tuple)

    def test_without_meetings(self):
        self.assertEqual(made_book([0], []), ((0,), ()))

    def test_order_of_what_is_handed_in_does_not_count(self):
        chance = random.Random(4)
        for trial in range(50):
            meetings = some_meetings(chance, 5, 12, 6)
            book = made_book([1] * 5, meetings)
            chance.shuffle(meetings)
            swapped = [(other, one, when, many) for one, other, when, many in meetings]
            self.assertEqual(made_book([1] * 5, swapped), book)
            keys = [(when, one) for one, other, when, many in book[1]]
            self.assertEqual(keys, sorted(set(keys)))
            self.assertTrue(all(one < other for one, other, when, many in book[1]))

    def test_what_is_handed_in_stays(self):
        rooms, meetings = [5, 6, 7], [(2, 1, 9, 1), (1, 0, 3, 2)]
        kept = copy.deepcopy((rooms, meetings))
        made_book(rooms, meetings)
        self.assertEqual((rooms, meetings), kept)

    def test_later_changes_of_it_change_nothing(self):
        rooms, meetings = [5, 6, 7], [(2, 1, 9, 1), (1, 0, 3, 2)]
        book = made_book(rooms, meetings)
        rooms[0] = 50
        rooms.append(1)
        meetings.clear()
        self.assertEqual(book, ((5, 6, 7), ((0, 1, 3, 2), (1, 2, 9, 1))))


class Bounds(unittest.TestCase):
    def refused(self, rooms, meetings):
        kept = copy.copy((rooms, meetings))
        with self.assertRaises(NoBook):
            made_book(rooms, meetings)
        self.assertEqual((rooms, meetings), kept)

    def test_how_many_rooms(self):
        self.assertEqual(made_book([1], [])[0], (1,))
        self.assertEqual(made_book([1] * 12, [(0, 11, 1, 1)]), ((1,) * 12, ((0, 11, 1, 1),)))
        self.refused([], [])
        self.refused([1] * 13, [])

    def test_how_much_room(self):
        self.assertEqual(made_book([0, 99], [])[0], (0, 99))
        for room in [-1, 100, -10 ** 30, 10 ** 30]:
            self.refused([room], [])
            self.refused([1, 1, room], [])

    def test_how_many_meetings(self):
        self.assertEqual(made_book([1, 1], sixty())[1], tuple(sixty()))
        self.refused([1, 1], sixty() + [(0, 1, 61, 1)])

    def test_walkers(self):
        self.assertEqual(made_book([1] * 3, [(0, 2, 1, 1)])[1], ((0, 2, 1, 1),))
        for one, other in [(-1, 0), (0, -1), (0, 3), (3, 0), (1, 1), (0, 10 ** 30)]:
            self.refused([1] * 3, [(one, other, 1, 1)])
        self.refused([1], [(0, 1, 1, 1)])

    def test_when(self):
        for when in [1, TOP]:
            self.assertEqual(made_book([1, 1], [(0, 1, when, 1)])[1], ((0, 1, when, 1),))
        for when in [0, -1, TOP + 1, 10 ** 30]:
            self.refused([1, 1], [(0, 1, when, 1)])

    def test_many(self):
        for many in [1, 99]:
            self.assertEqual(made_book([1, 1], [(0, 1, 5, many)])[1], ((0, 1, 5, many),))
        for many in [0, -1, 100, 10 ** 30]:
            self.refused([1, 1], [(0, 1, 5, many)])

    def test_rooms_that_are_no_list(self):
        for rooms in NO_WHOLES + [0, 1, (1, 1), "11", b"11", {0: 1}]:
            if rooms != [1]:
                self.refused(rooms, [])

    def test_meetings_that_are_no_list(self):
        for meetings in NO_WHOLES + [0, ((0, 1, 5, 1),), "0151", {0: (0, 1, 5, 1)}]:
            if meetings != []:
                self.refused([1, 1], meetings)

    def test_a_meeting_that_is_no_tuple_of_four(self):
        odd = NO_WHOLES + [0, [0, 1, 5, 1], "0151", (0, 1, 5), (0, 1, 5, 1, 1), {0: 0, 1: 1, 5: 5, 2: 1}]
        for meeting in odd:
            self.refused([1, 1], [meeting])
            self.refused([1, 1], [(0, 1, 9, 1), meeting])

    def test_other_kinds_in_a_numbers_place(self):
        for thing in NO_WHOLES:
            self.refused([thing], [])
            self.refused([1, thing], [])
            for place in range(4):
                meeting = [0, 1, 5, 2]
                meeting[place] = thing
                self.refused([1, 1], [tuple(meeting)])

    def test_two_meetings_of_a_walker_at_one_time(self):
        for second in [(0, 1), (1, 0), (0, 2), (2, 0), (1, 2), (2, 1)]:
            self.refused([1] * 4, [(0, 1, 5, 1), second + (5, 1)])
            self.refused([1] * 4, [second + (5, 1), (2, 3, 4, 1), (0, 1, 5, 3)])
        self.assertEqual(len(made_book([1] * 4, [(0, 1, 5, 1), (3, 2, 5, 1)])[1]), 2)
        self.assertEqual(len(made_book([1] * 4, [(0, 1, 5, 1), (0, 1, 6, 1)])[1]), 2)

    def test_the_same_meeting_twice(self):
        self.refused([1, 1], [(0, 1, 5, 1), (0, 1, 5, 1)])


class Numbers(unittest.TestCase):
    def setUp(self):
        self.book = made_book([1] * 5, [(0, 1, 3, 1), (2, 3, 3, 1), (1, 2, 7, 1), (0, 3, 7, 1), (1, 0, TOP, 1)])

    def test_meetings_of_a_walker(self):
        told = [meetings_of(self.book, walker) for walker in range(5)]
        self.assertEqual(told, [[0, 2, 4], [0, 3, 4], [1, 3], [1, 2], []])

    def test_when_and_many_are_no_walkers(self):
        book = made_book([1] * 8, [(0, 1, 5, 7)])
        self.assertEqual([meetings_of(book, walker) for walker in [5, 7]], [[], []])

    def test_a_list_of_its_own_each_time(self):
        told = meetings_of(self.book, 0)
        told.append(99)
        self.assertEqual(meetings_of(self.book, 0), [0, 2, 4])

    def test_by_a_time(self):
        cases = [(2, 0), (3, 2), (4, 2), (6, 2), (7, 4), (8, 4), (TOP - 1, 4), (TOP, 5)]
        for time, many in cases:
            self.assertEqual(by_time(self.book, time), many, time)

    def test_by_any_whole_number(self):
        for time, many in [(0, 0), (-1, 0), (-10 ** 30, 0), (TOP + 1, 5), (10 ** 30, 5)]:
            self.assertEqual(by_time(self.book, time), many)
        self.assertIs(type(by_time(self.book, 3)), int)

    def test_many_books(self):
        for book in some_books(8, 60, 12, 60, 20):
            for walker in range(len(book[0])):
                told = meetings_of(book, walker)
                self.assertEqual(told, sorted(told))
                self.assertEqual(told, [k for k in range(len(book[1])) if walker in book[1][k][:2]])
            for time in range(-1, 22):
                self.assertEqual(by_time(book, time), sum(row[2] <= time for row in book[1]))


if __name__ == "__main__":
    unittest.main()
