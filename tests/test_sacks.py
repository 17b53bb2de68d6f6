import functools
import itertools
import random
import unittest

from satchelmeet.books import made_book
from satchelmeet.cuts import cut_worth
from satchelmeet.plans import plan_worth
from satchelmeet.sacks import carried
from tests.helper import TOP, full_books, small_sacks, some_books, some_parts


def most_by_trying(book, loads, wants):
    """The most letters that can come, each moved by itself, over all that can be done: for tiny books only.

    A state is a sorted tuple of letters: ("load", its number) until it is first given, ("bag", its walker) behind it;
    and what each want still takes.
    """
    rooms, meetings = book

    @functools.lru_cache(None)
    def most(letters, open_wants, number):
        if number == len(meetings):
            return 0
        best = most(letters, open_wants, number + 1)
        for moved in passings(letters, number):
            taken = [letters[place] for place in moved]
            rest = [letter for place, letter in enumerate(letters) if place not in moved]
            for ends in itertools.product(*[places(letter, number, open_wants) for letter in taken]):
                left = list(open_wants)
                for kind, at in ends:
                    if kind == "want":
                        left[at] -= 1
                behind = rest + [end for end in ends if end[0] == "bag"]
                if min(left + [0]) < 0 or not fits(behind):
                    continue
                come = len([end for end in ends if end[0] == "want"])
                best = max(best, come + most(tuple(sorted(behind)), tuple(left), number + 1))
        return best

    def holder(letter):
        return loads[letter[1]][0] if letter[0] == "load" else letter[1]

    def passings(letters, number):
        one, other, when, many = meetings[number]
        able = []
        for place, letter in enumerate(letters):
            waits = letter[0] == "load" and loads[letter[1]][1] >= when
            if holder(letter) in (one, other) and not waits:
                able.append(place)
        for size in range(1, min(many, len(able)) + 1):
            yield from itertools.combinations(able, size)

    def places(letter, number, open_wants):
        one, other, when, many = meetings[number]
        taker = other if holder(letter) == one else one
        told = [("bag", taker)]
        for at, (walker, last, wanted) in enumerate(wants):
            if walker == taker and last >= when and open_wants[at]:
                told.append(("want", at))
        return told

    def fits(letters):
        return all(letters.count(("bag", walker)) <= room for walker, room in enumerate(rooms))

    best = 0
    pairs = [(a, b) for a in range(len(loads)) for b in range(len(wants))
             if loads[a][0] == wants[b][0] and loads[a][1] <= wants[b][1]]
    for numbers in itertools.product(*[range(min(loads[a][2], wants[b][2]) + 1) for a, b in pairs]):
        left, open_wants = [load[2] for load in loads], [want[2] for want in wants]
        for (a, b), much in zip(pairs, numbers):
            left[a] -= much
            open_wants[b] -= much
        if min(left + open_wants + [0]) >= 0:
            letters = [("load", number) for number, much in enumerate(left) for letter in range(much)]
            best = max(best, sum(numbers) + most(tuple(letters), tuple(open_wants), 0))
    return best


class Carried(unittest.TestCase):
    def worth(self, book, loads, wants):
        """The one worth of the told plan and cut."""
        kept = repr((book, loads, wants))
        told = carried(book, loads, wants)
        self.assertEqual(repr((book, loads, wants)), kept)
        self.assertIs(type(told), tuple)
        plan, cut = told
        worth = plan_worth(book, loads, wants, plan)
        self.assertIsNotNone(worth)
        self.assertEqual(cut_worth(book, loads, wants, cut), worth)
        return worth

    def test_one_meeting(self):
        book = made_book([0, 0], [(0, 1, 5, 7)])
        self.assertEqual(self.worth(book, [(0, 4, 30)], [(1, 5, 40)]), 7)
        self.assertEqual(self.worth(book, [(0, 4, 3)], [(1, 5, 40)]), 3)
        self.assertEqual(self.worth(book, [(0, 4, 30)], [(1, 5, 4)]), 4)
        self.assertEqual(self.worth(book, [(0, 5, 30)], [(1, 5, 40)]), 0)
        self.assertEqual(self.worth(book, [(0, 4, 30)], [(1, 4, 40)]), 0)
        self.assertEqual(self.worth(book, [(1, 4, 30)], [(0, 5, 40)]), 7)

    def test_both_ways_together(self):
        book = made_book([0, 0], [(0, 1, 5, 7)])
        self.assertEqual(self.worth(book, [(0, 0, 5), (1, 0, 5)], [(1, 9, 5), (0, 4, 5)]), 5 + 5)
        # Each of them keeps its own, at once.
        self.assertEqual(self.worth(book, [(0, 0, 9), (1, 0, 9)], [(1, 9, 9), (0, 9, 9)]), 18)

    def test_both_ways_where_each_could_give_to_the_other(self):
        # Behind the meeting at 5 both have what they wished to pass on; the bags hold it either way.
        book = made_book([4, 4, 0, 0], [(0, 2, 1, 4), (1, 3, 1, 4), (0, 1, 5, 4), (0, 2, 8, 4), (1, 3, 8, 4)])
        self.assertEqual(self.worth(book, [(2, 0, 4), (3, 0, 4)], [(2, 9, 4), (3, 9, 4)]), 8)
        self.assertEqual(self.worth(book, [(2, 0, 4), (3, 0, 4)], [(3, 9, 8)]), 8)

    def test_bags_bound_it(self):
        for room in (0, 1, 2, 9):
            book = made_book([0, room, 0], [(0, 1, 2, 5), (1, 2, 4, 5)])
            self.assertEqual(self.worth(book, [(0, 0, 9)], [(2, 9, 9)]), min(room, 5))

    def test_a_load_needs_no_room(self):
        book = made_book([0, 0], [(0, 1, 2, 3), (0, 1, 4, 3)])
        self.assertEqual(self.worth(book, [(0, 0, 9)], [(1, 9, 9)]), 6)

    def test_a_want_of_the_loads_own_walker_is_not_served_too_late(self):
        book = made_book([0, 2], [(0, 1, 2, 3), (0, 1, 4, 3)])
        self.assertEqual(self.worth(book, [(0, 0, 9)], [(0, 0, 1)]), 1)
        self.assertEqual(self.worth(book, [(0, 1, 9)], [(0, 0, 1)]), 0)

    def test_no_loads_no_wants_no_meetings(self):
        for book in (made_book([3], []), made_book([0, 0], []), made_book([2, 2], [(0, 1, 3, 2)])):
            self.assertEqual(self.worth(book, [], []), 0)
            self.assertEqual(self.worth(book, [(0, 0, 9)], []), 0)
            self.assertEqual(self.worth(book, [], [(0, 9, 9)]), 0)
        self.assertEqual(self.worth(made_book([0, 0], []), [(0, 0, 9)], [(1, 9, 9)]), 0)

    def test_at_once(self):
        book = made_book([0], [])
        self.assertEqual(self.worth(book, [(0, 5, 9)], [(0, 5, 4)]), 4)
        self.assertEqual(self.worth(book, [(0, 5, 9)], [(0, 6, 14)]), 9)
        self.assertEqual(self.worth(book, [(0, 6, 9)], [(0, 5, 4)]), 0)
        self.assertEqual(self.worth(book, [(0, 0, 9), (0, 7, 2)], [(0, 5, 4), (0, 8, 5)]), 9)
        self.assertEqual(carried(book, [(0, 5, 9)], [(0, 5, 4)])[0], ([], [(0, 0, 4)]))

    def test_at_once_in_a_book_with_meetings(self):
        book = made_book([1, 1], [(0, 1, 3, 1), (0, 1, 5, 1), (0, 1, 7, 1)])
        for since, last in itertools.product(range(9), range(9)):
            self.assertEqual(self.worth(book, [(0, since, 50)], [(0, last, 60)]), 50 if since <= last else 0)

    def test_bounds_of_time(self):
        book = made_book([0, 0], [(0, 1, 1, 3), (0, 1, TOP, 3)])
        self.assertEqual(self.worth(book, [(0, 0, 9)], [(1, TOP, 9)]), 6)
        self.assertEqual(self.worth(book, [(0, 0, 9)], [(1, TOP - 1, 9)]), 3)
        self.assertEqual(self.worth(book, [(0, 1, 9)], [(1, TOP, 9)]), 3)

    def test_the_asker_changes_what_was_told(self):
        book = made_book([2, 2], [(0, 1, 3, 2)])
        sacks = (book, [(0, 0, 4), (0, 2, 1)], [(1, 9, 3), (0, 9, 1)])
        kept = repr(carried(*sacks))
        (rows, straight), (begun, come, marks) = carried(*sacks)
        rows[0][2].append(1)
        rows.clear()
        straight.append(1)
        begun[0] = come[0] = 7
        marks[0].clear()
        self.assertEqual(repr(carried(*sacks)), kept)

    def test_lists_of_their_own_in_each_row(self):
        book = made_book([2, 2], [(0, 1, 3, 2), (0, 1, 4, 2)])
        rows, straight = carried(book, [(0, 0, 4)], [(1, 9, 3)])[0]
        begun, come = list(rows[1][2]), list(rows[1][3])
        rows[0][2].append(5)
        rows[0][3].append(5)
        self.assertEqual((rows[1][2], rows[1][3]), (begun, come))

    def test_as_much_as_by_trying_all(self):
        worths = []
        chance = random.Random(77)
        for book in some_books(78, 400, 4, 6, 6):
            rooms = [chance.choice([0, 1, 1, 2]) for room in book[0]]
            book = made_book(rooms, [row[:3] + (chance.choice([1, 1, 2]),) for row in book[1]])
            loads, wants = some_parts(chance, book, 6, 3, 2), some_parts(chance, book, 6, 3, 2)
            worths.append(self.worth(book, loads, wants))
            self.assertEqual(worths[-1], most_by_trying(book, loads, wants), (book, loads, wants))
        self.assertGreater(len([worth for worth in worths if worth > 1]), 30)

    def test_small_rooms_and_manys(self):
        for book, loads, wants in small_sacks(71, 400):
            self.worth(book, loads, wants)

    def test_eight_of_99_in_full_books(self):
        chance = random.Random(72)
        for small, book in itertools.product((True, False), full_books(73, 10)):
            if small:
                rooms = [chance.choice([0, 1, 2, 3, 7]) for room in book[0]]
                book = made_book(rooms, [row[:3] + (chance.choice([1, 2, 3, 5]),) for row in book[1]])
            top = book[1][-1][2]
            loads = [(chance.randrange(12), chance.randint(0, top // 2), 99) for load in range(8)]
            wants = [(chance.randrange(12), chance.randint(top // 2, top), 99) for want in range(8)]
            self.assertGreater(self.worth(book, loads, wants), 0)


if __name__ == "__main__":
    unittest.main()
