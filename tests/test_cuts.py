import copy
import itertools
import random
import unittest

from satchelmeet.books import made_book
from satchelmeet.cuts import cut_worth
from satchelmeet.plans import plan_worth
from satchelmeet.sacks import carried
from tests.helper import other_kinds, other_numbers, small_sacks, variants

HUGE = 10 ** 30


def worth_by_words(book, loads, wants, cut):
    """A cut of the right form, looked at sentence by sentence; its worth, or None."""
    rooms, meetings = book
    begun, come, marks = cut
    if any(mark not in (0, 1, 2, 3) for row in marks for mark in row):
        return None
    is_open = [[mark in (2, 3) for mark in row] for row in marks]
    is_in = [[mark in (1, 3) for mark in row] for row in marks]
    for (walker, since, many), truth in zip(loads, begun):
        for stretch in range(len(marks)):
            if truth and stretch >= sum(when <= since for one, other, when, most in meetings):
                if not is_open[stretch][walker]:
                    return None
    for stretch, walker in itertools.product(range(len(marks)), range(len(rooms))):
        if stretch < len(meetings) and is_open[stretch][walker] and not is_in[stretch + 1][walker]:
            return None
        if stretch >= 1 and is_in[stretch][walker]:
            for number, want in enumerate(wants):
                if want[0] == walker and want[1] >= meetings[stretch - 1][2] and not come[number]:
                    return None
    for (load, left), (want, came) in itertools.product(zip(loads, begun), zip(wants, come)):
        if load[0] == want[0] and load[1] <= want[1] and left and not came:
            return None
    worth = sum(load[2] for load, truth in zip(loads, begun) if truth is False)
    worth += sum(want[2] for want, truth in zip(wants, come) if truth is True)
    worth += sum(rooms[walker] for row in marks for walker, mark in enumerate(row) if mark == 1)
    for number, (one, other, when, many) in enumerate(meetings):
        if any(is_open[number][a] and not is_in[number + 1][b] for a, b in ((one, other), (other, one))):
            worth += many
    return worth


class CutWorth(unittest.TestCase):
    def says(self, sacks, cut, answer):
        kept = repr((sacks, cut))
        told = cut_worth(*sacks, cut)
        self.assertEqual(told, answer, cut)
        self.assertIs(type(told), type(answer))
        self.assertEqual(repr((sacks, cut)), kept)


class OneMeeting(CutWorth):
    """Walker 0 meets walker 1 at 5, where seven letters may pass."""

    def setUp(self):
        self.book = made_book([10, 20], [(0, 1, 5, 7)])
        self.loads = [(0, 4, 30)]
        self.wants = [(1, 5, 40)]

    def cut(self, begun, come, marks, answer):
        self.says((self.book, self.loads, self.wants), (begun, come, marks), answer)

    def test_nothing_begins(self):
        self.cut([False], [False], [[0, 0], [0, 0]], 30)

    def test_all_comes(self):
        self.cut([True], [True], [[3, 0], [3, 3]], 40)
        self.cut([True], [True], [[2, 0], [3, 1]], 60)

    def test_the_meeting_is_cut(self):
        self.cut([True], [False], [[2, 0], [3, 0]], 7)
        self.cut([True], [False], [[3, 0], [3, 0]], 7)
        self.cut([False], [True], [[0, 2], [0, 1]], 30 + 40 + 7 + 20)

    def test_cut_the_other_way(self):
        self.loads, self.wants = [(1, 4, 30)], [(0, 5, 40)]
        self.cut([True], [False], [[0, 2], [0, 3]], 7)
        self.cut([True], [True], [[0, 2], [3, 3]], 40)
        self.cut([True], [True], [[0, 2], [1, 3]], 40 + 10)

    def test_both_open_cut_nothing(self):
        self.cut([True], [True], [[2, 2], [3, 3]], 40)
        self.cut([True], [True], [[2, 2], [3, 1]], 40 + 20)
        self.cut([True], [False], [[2, 2], [3, 0]], None)

    def test_what_counts_is_in_on_the_next_stretch(self):
        # A mark of 2 behind the meeting is not in: the meeting counts.
        self.cut([True], [False], [[2, 0], [3, 2]], 7)
        # Ahead of the meeting a mark of 1 of the other one does not help.
        self.cut([True], [False], [[2, 1], [3, 0]], 7 + 20)

    def test_a_true_load_is_open_from_its_since_on(self):
        self.cut([True], [False], [[0, 0], [3, 0]], None)
        self.cut([True], [False], [[1, 0], [3, 0]], None)
        self.cut([True], [False], [[2, 0], [1, 0]], None)
        self.loads = [(0, 5, 30)]
        self.cut([True], [False], [[0, 0], [2, 0]], 0)
        self.cut([True], [False], [[0, 0], [3, 0]], 0)
        self.cut([True], [False], [[0, 0], [0, 0]], None)
        self.cut([True], [False], [[0, 0], [1, 0]], None)
        self.cut([True], [False], [[0, 0], [0, 2]], None)

    def test_behind_an_open_one_the_next_is_in(self):
        self.cut([True], [False], [[2, 0], [2, 0]], None)
        self.cut([False], [False], [[2, 0], [0, 0]], None)
        self.cut([False], [False], [[2, 0], [1, 0]], 30 + 10 + 7)
        self.cut([False], [False], [[1, 0], [0, 0]], 30 + 10)

    def test_where_it_is_in_wants_are_true(self):
        self.cut([False], [False], [[0, 0], [0, 1]], None)
        self.cut([False], [False], [[0, 0], [0, 3]], None)
        self.cut([False], [False], [[0, 0], [0, 2]], 30)
        self.cut([False], [True], [[0, 0], [0, 1]], 30 + 40 + 20)
        # On stretch 0 nothing has come as yet.
        self.cut([False], [False], [[0, 1], [0, 0]], 30 + 20)

    def test_wants_with_a_last_from_when_on(self):
        for last, answer in ((4, 50), (5, None), (6, None)):
            self.wants = [(1, last, 40)]
            self.cut([False], [False], [[0, 0], [0, 1]], answer)

    def test_wants_of_this_walker(self):
        self.wants = [(0, 9, 40)]
        self.cut([False], [False], [[0, 0], [0, 3]], 30)
        self.cut([False], [False], [[0, 0], [3, 0]], None)

    def test_rooms_for_each_mark_1(self):
        self.cut([False], [True], [[1, 1], [1, 1]], 30 + 40 + 60)
        self.cut([False], [True], [[1, 3], [1, 1]], 30 + 40 + 40)
        self.cut([False], [True], [[2, 2], [3, 3]], 30 + 40)

    def test_several_loads_and_wants(self):
        self.loads = [(0, 4, 30), (1, 6, 5), (0, 5, 3)]
        self.wants = [(1, 5, 40), (1, 2, 9), (0, 4, 2)]
        self.cut([False, False, False], [False, False, False], [[0, 0], [0, 0]], 38)
        self.cut([False, True, True], [False, False, False], [[0, 0], [2, 2]], 30)
        self.cut([False, True, True], [False, True, False], [[0, 0], [2, 2]], 39)
        self.cut([True, True, True], [False, False, True], [[2, 0], [3, 2]], 7 + 2)


class AtOnce(CutWorth):
    def test_a_true_load_and_its_want(self):
        book = made_book([5, 5], [])
        for since, last, answer in ((3, 3, None), (3, 4, None), (4, 3, 0)):
            self.says((book, [(0, since, 8)], [(0, last, 9)]), ([True], [False], [[2, 0]]), answer)
        self.says((book, [(0, 3, 8)], [(0, 3, 9)]), ([True], [True], [[2, 0]]), 9)
        self.says((book, [(0, 3, 8)], [(0, 3, 9)]), ([False], [False], [[2, 0]]), 8)
        self.says((book, [(0, 3, 8)], [(0, 3, 9)]), ([False], [True], [[2, 0]]), 17)
        self.says((book, [(0, 3, 8)], [(1, 3, 9)]), ([True], [False], [[2, 0]]), 0)

    def test_each_load_with_each_want(self):
        book = made_book([5, 5], [])
        sacks = (book, [(0, 9, 8), (0, 3, 4)], [(1, 9, 9), (0, 5, 6)])
        self.says(sacks, ([True, True], [False, True], [[2, 0]]), 6)
        self.says(sacks, ([True, True], [True, False], [[2, 0]]), None)
        self.says(sacks, ([True, False], [False, False], [[2, 0]]), 4)


class Bare(CutWorth):
    def test_without_loads_wants_meetings(self):
        bare = made_book([3], [])
        self.says((bare, [], []), ([], [], [[0]]), 0)
        self.says((bare, [], []), ([], [], [[1]]), 3)
        self.says((bare, [], []), ([], [], []), None)
        self.says((bare, [], []), ([], [], [[]]), None)
        self.says((bare, [], []), ([], [], [[0], [0]]), None)
        self.says((bare, [], []), ([True], [], [[2]]), None)
        self.says((bare, [], []), ([], [True], [[2]]), None)
        self.says((bare, [(0, 9, 4)], []), ([True], [], [[2]]), 0)
        self.says((bare, [(0, 9, 4)], []), ([False], [], [[2]]), 4)
        self.says((bare, [], [(0, 9, 4)]), ([], [True], [[2]]), 4)

    def test_a_cut_without_rooms(self):
        book = made_book([0, 0], [(0, 1, 3, 1)])
        self.says((book, [], []), ([], [], [[1, 1], [1, 1]]), 0)


class OfAnything(CutWorth):
    def setUp(self):
        self.book = made_book([2, 4, 8], [(0, 1, 3, 2), (1, 2, 5, 2)])
        self.sacks = (self.book, [(0, 0, 3), (1, 4, 1)], [(2, 9, 2), (0, 0, 1)])
        self.cut = ([True, False], [True, True], [[2, 0, 0], [3, 1, 0], [3, 1, 3]])

    def test_the_cut(self):
        self.says(self.sacks, self.cut, 1 + 2 + 1 + 4 + 4)

    def test_other_kinds_in_any_place(self):
        for thing in variants(self.cut, other_kinds):
            self.says(self.sacks, thing, None)

    def test_other_numbers_in_any_place(self):
        for thing in variants(self.cut, other_numbers):
            self.says(self.sacks, thing, worth_by_words(*self.sacks, thing))
        for mark in (-1, 4, HUGE, -HUGE):
            self.says((self.book, [], []), ([], [], [[0, 0, 0], [0, 0, 0], [0, 0, mark]]), None)

    def test_a_plan_is_no_cut(self):
        self.says(self.sacks, carried(*self.sacks)[0], None)

    def test_by_the_words(self):
        chance = random.Random(25)
        answers = []
        for book, loads, wants in small_sacks(41, 120):
            cut = carried(book, loads, wants)[1]
            for trial in range(40):
                begun, come, marks = copy.deepcopy(cut)
                for step in range(chance.randint(0, 3)):
                    row = chance.choice(marks)
                    row[chance.randrange(len(row))] = chance.randint(0, 3)
                    for truths in (begun, come):
                        if truths and chance.random() < 0.3:
                            truths[chance.randrange(len(truths))] = chance.random() < 0.5
                answer = worth_by_words(book, loads, wants, (begun, come, marks))
                self.says((book, loads, wants), (begun, come, marks), answer)
                answers.append(answer)
        self.assertGreater(answers.count(None), 500)
        self.assertGreater(len(answers) - answers.count(None), 500)

    def test_no_plan_is_worth_more_than_any_cut(self):
        chance = random.Random(26)
        for book, loads, wants in small_sacks(42, 60):
            plan, cut = carried(book, loads, wants)
            plans = [plan_worth(book, loads, wants, thing) for thing in variants(plan, other_numbers)]
            cuts = []
            for trial in range(60):
                marks = [[chance.choice([mark, 0, 1, 2, 3]) for mark in row] for row in cut[2]]
                truths = [chance.random() < 0.5 for want in wants]
                cuts.append(cut_worth(book, loads, wants, (cut[0], truths, marks)))
            most = max([worth for worth in plans if worth is not None], default=0)
            for worth in cuts:
                self.assertTrue(worth is None or worth >= most)


if __name__ == "__main__":
    unittest.main()
