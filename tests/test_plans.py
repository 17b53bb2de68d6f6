import copy
import random
import unittest

from satchelmeet.books import made_book
from satchelmeet.plans import plan_worth
from satchelmeet.sacks import carried
from tests.helper import other_kinds, other_numbers, small_sacks, variants

HUGE = 10 ** 30


class Broken(Exception):
    pass


def need(truth):
    if not truth:
        raise Broken


def worth_by_words(book, loads, wants, plan):
    """A plan of the right form, looked at sentence by sentence; its worth, or None."""
    try:
        return looked_through(book, loads, wants, plan)
    except Broken:
        return None


def looked_through(book, loads, wants, plan):
    rows, straight = plan
    left = {number: load[2] for number, load in enumerate(loads)}
    open_wants = {number: want[2] for number, want in enumerate(wants)}
    bags = dict.fromkeys(range(len(book[0])), 0)
    worth = 0
    for (first, second, when, many), (there, back, begun, come) in zip(book[1], rows):
        need(there >= 0 and back >= 0 and there + back <= many)
        need(min(begun + come + [0]) >= 0)
        gives, takes = {first: there, second: back}, {first: back, second: there}
        for number, much in enumerate(begun):
            if much:
                need(loads[number][0] in gives and loads[number][1] < when)
                gives[loads[number][0]] -= much
                left[number] -= much
        for number, much in enumerate(come):
            if much:
                need(wants[number][0] in takes and wants[number][1] >= when)
                takes[wants[number][0]] -= much
                open_wants[number] -= much
                worth += much
        need(min(gives.values()) >= 0 and min(takes.values()) >= 0)
        for walker in (first, second):
            bags[walker] -= gives[walker]
            need(bags[walker] >= 0)
        for walker in (first, second):
            bags[walker] += takes[walker]
            need(bags[walker] <= book[0][walker])
    seen = []
    for load, want, much in straight:
        need(0 <= load < len(loads) and 0 <= want < len(wants) and much >= 1)
        need((load, want) not in seen)
        seen.append((load, want))
        need(loads[load][0] == wants[want][0] and loads[load][1] <= wants[want][1])
        left[load] -= much
        open_wants[want] -= much
        worth += much
    need(min(list(left.values()) + list(open_wants.values()) + [0]) >= 0)
    return worth


class PlanWorth(unittest.TestCase):
    def says(self, sacks, plan, answer):
        kept = repr((sacks, plan))
        told = plan_worth(*sacks, plan)
        self.assertEqual(told, answer, plan)
        self.assertIs(type(told), type(answer))
        self.assertEqual(repr((sacks, plan)), kept)


class OneMeeting(PlanWorth):
    """Walker 0 meets walker 1 at 5, where three letters may pass."""

    def setUp(self):
        self.book = made_book([2, 1, 9], [(0, 1, 5, 3)])
        self.loads = [(0, 4, 3), (1, 2, 2), (2, 0, 9)]
        self.wants = [(1, 5, 2), (0, 8, 2), (2, 9, 9)]

    def row(self, there, back, begun, come, answer, straight=None):
        self.says((self.book, self.loads, self.wants), ([(there, back, begun, come)], straight or []), answer)

    def test_nothing_passes(self):
        self.row(0, 0, [0, 0, 0], [0, 0, 0], 0)

    def test_what_is_begun_comes(self):
        self.row(1, 0, [1, 0, 0], [1, 0, 0], 1)
        self.row(2, 0, [2, 0, 0], [2, 0, 0], 2)
        self.row(0, 2, [0, 2, 0], [0, 2, 0], 2)
        self.row(2, 1, [2, 1, 0], [2, 1, 0], 3)

    def test_what_comes_to_none_goes_into_the_bag(self):
        self.row(3, 0, [3, 0, 0], [2, 0, 0], 2)
        self.row(1, 0, [1, 0, 0], [0, 0, 0], 0)
        self.row(0, 2, [0, 2, 0], [0, 0, 0], 0)
        # The bag of 1 has room for one.
        self.row(3, 0, [3, 0, 0], [1, 0, 0], None)
        self.row(2, 0, [2, 0, 0], [0, 0, 0], None)

    def test_many(self):
        self.row(2, 2, [2, 2, 0], [2, 2, 0], None)
        self.row(1, 2, [1, 2, 0], [1, 2, 0], 3)
        self.loads[0] = (0, 4, 9)
        self.wants[0] = (1, 5, 9)
        self.row(3, 0, [3, 0, 0], [3, 0, 0], 3)
        self.row(4, 0, [4, 0, 0], [4, 0, 0], None)

    def test_what_is_given_is_begun_or_leaves_the_bag(self):
        self.row(1, 0, [0, 0, 0], [1, 0, 0], None)
        self.row(0, 1, [0, 0, 0], [0, 1, 0], None)
        self.row(2, 0, [1, 0, 0], [2, 0, 0], None)

    def test_begun_is_at_most_what_is_given(self):
        self.row(1, 0, [2, 0, 0], [1, 0, 0], None)
        self.row(0, 0, [1, 0, 0], [0, 0, 0], None)
        self.row(1, 1, [0, 2, 0], [1, 1, 0], None)
        self.row(1, 0, [1, 1, 0], [1, 0, 0], None)

    def test_those_of_a_giver_together(self):
        self.loads = [(0, 4, 1), (0, 3, 1), (0, 0, 1)]
        self.row(2, 0, [1, 1, 0], [2, 0, 0], 2)
        self.row(2, 0, [1, 1, 1], [2, 0, 0], None)

    def test_come_is_at_most_what_is_taken(self):
        self.row(1, 0, [1, 0, 0], [2, 0, 0], None)
        self.row(1, 0, [1, 0, 0], [0, 1, 0], None)
        self.row(0, 0, [0, 0, 0], [1, 0, 0], None)
        self.row(1, 0, [1, 0, 0], [1, 1, 0], None)

    def test_those_of_a_taker_together(self):
        self.wants = [(1, 5, 2), (1, 8, 2), (1, 6, 1)]
        self.row(3, 0, [3, 0, 0], [1, 1, 1], 3)
        self.row(2, 0, [2, 0, 0], [1, 1, 1], None)

    def test_begun_is_of_these_two(self):
        self.row(1, 0, [0, 0, 1], [1, 0, 0], None)
        self.row(1, 0, [1, 0, 1], [1, 0, 0], None)

    def test_comes_to_these_two(self):
        self.row(1, 0, [1, 0, 0], [0, 0, 1], None)
        self.row(1, 0, [1, 0, 0], [1, 0, 1], None)

    def test_since_is_below_when(self):
        for since, answer in ((3, 1), (4, 1), (5, None), (6, None)):
            self.loads[0] = (0, since, 3)
            self.row(1, 0, [1, 0, 0], [1, 0, 0], answer)

    def test_last_is_from_when_on(self):
        for last, answer in ((3, None), (4, None), (5, 1), (6, 1)):
            self.wants[0] = (1, last, 3)
            self.row(1, 0, [1, 0, 0], [1, 0, 0], answer)

    def test_numbers_below_0(self):
        self.row(-1, 0, [0, 0, 0], [0, 0, 0], None)
        self.row(0, -1, [0, 0, 0], [0, 0, 0], None)
        self.row(1, -1, [1, 0, 0], [1, 0, 0], None)
        self.row(1, 0, [2, -1, 0], [1, 0, 0], None)
        self.row(1, 0, [1, 0, -1], [1, 0, 0], None)
        self.row(1, 0, [1, 0, 0], [1, -1, 0], None)
        self.row(1, 0, [1, 0, 0], [1, 0, -1], None)
        self.row(-HUGE, 0, [0, 0, 0], [0, 0, 0], None)
        # What is taken off one load would make up for another one of the same walker.
        self.loads = [(0, 4, 3), (0, 4, 3), (0, 4, 3)]
        self.row(1, 0, [2, -1, 0], [1, 0, 0], None)
        self.wants = [(1, 5, 3), (1, 5, 3), (1, 5, 3)]
        self.row(1, 0, [1, 0, 0], [2, -1, 0], None)

    def test_huge_numbers(self):
        self.row(HUGE, 0, [HUGE, 0, 0], [HUGE, 0, 0], None)
        self.row(HUGE, -HUGE, [0, 0, 0], [0, 0, 0], None)
        self.row(0, 0, [0, 0, HUGE], [0, 0, HUGE], None)

    def test_of_a_load_no_more_than_its_many(self):
        self.loads[1] = (1, 2, 1)
        self.row(0, 1, [0, 1, 0], [0, 1, 0], 1)
        self.row(0, 2, [0, 2, 0], [0, 2, 0], None)

    def test_to_a_want_no_more_than_its_many(self):
        self.wants[1] = (0, 8, 1)
        self.row(0, 2, [0, 2, 0], [0, 1, 0], 1)
        self.row(0, 2, [0, 2, 0], [0, 2, 0], None)

    def test_straight_and_begun_together(self):
        # The load of 0 and the want of 0: two by themselves, or one and two.
        self.row(0, 0, [0, 0, 0], [0, 0, 0], 2, [(0, 1, 2)])
        self.row(2, 0, [2, 0, 0], [2, 0, 0], 3, [(0, 1, 1)])
        self.row(2, 0, [2, 0, 0], [2, 0, 0], None, [(0, 1, 2)])
        self.row(0, 1, [0, 1, 0], [0, 1, 0], 2, [(0, 1, 1)])
        self.row(0, 1, [0, 1, 0], [0, 1, 0], None, [(0, 1, 2)])


class Straight(PlanWorth):
    def setUp(self):
        self.sacks = (made_book([0, 0], []), [(0, 4, 5), (0, 9, 3), (1, 0, 9)], [(0, 4, 6), (0, 9, 2), (1, 9, 1)])

    def parts(self, straight, answer):
        self.says(self.sacks, ([], straight), answer)

    def test_none_and_one(self):
        self.parts([], 0)
        self.parts([(0, 0, 1)], 1)
        self.parts([(0, 0, 5)], 5)

    def test_many_is_from_1_on(self):
        for many in (0, -1, -HUGE):
            self.parts([(0, 0, many)], None)
        self.parts([(0, 0, 3), (0, 1, 0)], None)

    def test_since_is_at_most_last(self):
        self.parts([(0, 0, 1)], 1)
        self.parts([(0, 1, 1)], 1)
        self.parts([(1, 1, 1)], 1)
        self.parts([(1, 0, 1)], None)

    def test_one_walker(self):
        self.parts([(2, 2, 1)], 1)
        self.parts([(0, 2, 1)], None)
        self.parts([(2, 0, 1)], None)

    def test_no_two_of_one_load_and_want(self):
        self.parts([(0, 0, 1), (0, 0, 1)], None)
        self.parts([(0, 0, 1), (0, 1, 1), (0, 0, 2)], None)
        self.parts([(0, 0, 1), (0, 1, 1), (1, 1, 1), (2, 2, 1)], 4)

    def test_numbers_of_loads_and_wants(self):
        for number in (-1, 3, HUGE, -HUGE):
            self.parts([(number, 0, 1)], None)
            self.parts([(0, number, 1)], None)

    def test_loads_and_wants_hold(self):
        self.parts([(0, 0, 5)], 5)
        self.parts([(0, 0, 6)], None)
        self.parts([(0, 0, 4), (0, 1, 1)], 5)
        self.parts([(0, 0, 4), (0, 1, 2)], None)
        self.parts([(1, 1, 2)], 2)
        self.parts([(1, 1, 3)], None)
        self.parts([(0, 1, 1), (1, 1, 2)], None)
        self.parts([(2, 2, 2)], None)
        self.parts([(0, 0, HUGE)], None)

    def test_without_loads_wants_meetings(self):
        bare = made_book([3], [])
        self.says((bare, [], []), ([], []), 0)
        self.says((bare, [(0, 0, 9)], []), ([], []), 0)
        self.says((bare, [], [(0, 0, 9)]), ([], []), 0)
        self.says((bare, [], []), ([], [(0, 0, 1)]), None)
        book = made_book([3, 3], [(0, 1, 2, 1)])
        self.says((book, [], []), ([(0, 0, [], [])], []), 0)
        self.says((book, [], []), ([(1, 0, [], [])], []), None)
        self.says((book, [], []), ([], []), None)
        self.says((bare, [], []), ([(0, 0, [], [])], []), None)


class Bags(PlanWorth):
    """A row of three: 0 gives to 1 at 3, 1 to 2 at 5, 2 to 0 at 7."""

    def setUp(self):
        self.book = made_book([0, 2, 1], [(0, 1, 3, 9), (1, 2, 5, 9), (0, 2, 7, 9)])
        self.sacks = (self.book, [(0, 0, 9), (1, 0, 9)], [(2, 9, 9), (0, 9, 9)])

    def rows(self, rows, answer):
        self.says(self.sacks, (rows, []), answer)

    def test_room(self):
        self.rows([(2, 0, [2, 0], [0, 0]), (2, 0, [0, 0], [2, 0]), (0, 0, [0, 0], [0, 0])], 2)
        self.rows([(3, 0, [3, 0], [0, 0]), (3, 0, [0, 0], [3, 0]), (0, 0, [0, 0], [0, 0])], None)
        self.rows([(2, 0, [2, 0], [0, 0]), (2, 0, [0, 0], [1, 0]), (0, 1, [0, 0], [0, 1])], 2)
        self.rows([(2, 0, [2, 0], [0, 0]), (2, 0, [0, 0], [0, 0]), (0, 2, [0, 0], [0, 2])], None)

    def test_a_load_lies_outside_the_bags(self):
        self.rows([(2, 0, [2, 0], [0, 0]), (9, 0, [0, 7], [9, 0]), (0, 0, [0, 0], [0, 0])], 9)
        self.rows([(2, 0, [2, 0], [0, 0]), (9, 0, [0, 6], [9, 0]), (0, 0, [0, 0], [0, 0])], None)

    def test_what_comes_is_out_of_the_bags(self):
        # What came to 2 can be given on by nobody.
        self.rows([(2, 0, [2, 0], [0, 0]), (2, 0, [0, 0], [2, 0]), (0, 1, [0, 0], [0, 1])], None)

    def test_the_bag_ahead_of_the_meeting(self):
        # At 3 walker 1 takes two and gives back one: not of those, for its bag was empty ahead of it.
        self.rows([(2, 1, [2, 0], [0, 1]), (1, 0, [0, 0], [1, 0]), (0, 0, [0, 0], [0, 0])], None)
        self.rows([(2, 1, [2, 1], [0, 1]), (2, 0, [0, 0], [2, 0]), (0, 0, [0, 0], [0, 0])], 3)

    def test_behind_the_meeting_the_bag_holds(self):
        # At the second meeting 1 gives two of its bag and takes two.
        book = made_book([0, 2, 0], [(0, 1, 3, 9), (1, 2, 5, 9)])
        sacks = (book, [(0, 0, 9), (2, 0, 9)], [(2, 9, 9)])
        self.says(sacks, ([(2, 0, [2, 0], [0]), (2, 2, [0, 2], [2])], []), 2)
        self.says(sacks, ([(2, 0, [2, 0], [0]), (2, 3, [0, 3], [2])], []), None)
        self.says(sacks, ([(2, 0, [2, 0], [0]), (1, 2, [0, 2], [1])], []), None)

    def test_each_row_for_its_own_meeting(self):
        self.rows([(0, 0, [0, 0], [0, 0]), (2, 0, [0, 2], [2, 0]), (0, 0, [0, 0], [0, 0])], 2)
        self.rows([(2, 0, [0, 2], [2, 0]), (0, 0, [0, 0], [0, 0]), (0, 0, [0, 0], [0, 0])], None)
        self.rows([(0, 0, [0, 0], [0, 0]), (2, 0, [0, 2], [2, 0])], None)
        self.rows([(0, 0, [0, 0], [0, 0])] * 4, None)

    def test_over_the_whole_plan_a_load_is_counted_once(self):
        book = made_book([0, 0], [(0, 1, 3, 2), (0, 1, 5, 2)])
        sacks = (book, [(0, 0, 3)], [(1, 9, 4)])
        self.says(sacks, ([(2, 0, [2], [2]), (1, 0, [1], [1])], []), 3)
        self.says(sacks, ([(2, 0, [2], [2]), (2, 0, [2], [2])], []), None)
        sacks = (book, [(0, 0, 4)], [(1, 9, 3)])
        self.says(sacks, ([(2, 0, [2], [2]), (1, 0, [1], [1])], []), 3)
        self.says(sacks, ([(2, 0, [2], [2]), (2, 0, [2], [2])], []), None)


class OfAnything(PlanWorth):
    def setUp(self):
        book = made_book([2, 2, 2], [(0, 1, 3, 2), (1, 2, 5, 2)])
        self.sacks = (book, [(0, 0, 3), (1, 1, 1)], [(2, 9, 2), (0, 0, 1)])
        self.plan = ([(1, 0, [1, 0], [0, 0]), (2, 0, [0, 1], [2, 0])], [(0, 1, 1)])

    def test_the_plan(self):
        self.says(self.sacks, self.plan, 3)

    def test_other_kinds_in_any_place(self):
        rows, straight = self.plan
        for thing in variants(self.plan, other_kinds):
            # Of straight alone one part less is still a plan.
            self.says(self.sacks, thing, 2 if thing == (rows, []) else None)

    def test_other_numbers_in_any_place(self):
        for thing in variants(self.plan, other_numbers):
            self.says(self.sacks, thing, worth_by_words(*self.sacks, thing))

    def test_a_cut_is_no_plan(self):
        self.says(self.sacks, carried(*self.sacks)[1], None)

    def test_by_the_words(self):
        chance = random.Random(15)
        answers = []
        for book, loads, wants in small_sacks(31, 120):
            plan = carried(book, loads, wants)[0]
            things = [plan] + variants(plan, other_numbers)
            for thing in chance.sample(things, min(60, len(things))):
                answer = worth_by_words(book, loads, wants, thing)
                self.says((book, loads, wants), thing, answer)
                answers.append(answer)
        self.assertIn(None, answers)
        self.assertGreater(len([answer for answer in answers if answer is not None]), 200)

    def test_two_numbers_changed(self):
        chance = random.Random(16)
        taken = 0
        for book, loads, wants in small_sacks(32, 60):
            plan = carried(book, loads, wants)[0]
            for trial in range(40):
                thing = copy.deepcopy(plan)
                for step in range(2):
                    things = variants(thing, lambda part: other_numbers(part)[:2])
                    thing = chance.choice(things) if things else thing
                answer = worth_by_words(book, loads, wants, thing)
                self.says((book, loads, wants), thing, answer)
                taken += answer is not None
        self.assertGreater(taken, 50)


if __name__ == "__main__":
    unittest.main()
