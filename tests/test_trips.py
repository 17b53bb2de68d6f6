import copy
import itertools
import random
import unittest

from satchelmeet.books import made_book
from satchelmeet.chains import walkers_along
from satchelmeet.errors import HasIt, MeetError, NoDeed, NoLetter, NoMeeting, NoPass, NoRoom, NotThere, NoWalker
from satchelmeet.trips import Trip
from satchelmeet.walls import earliest, earliest_times
from tests.helper import NO_WHOLES, TOP, full_books, some_books, some_letters

HUGE = 10 ** 30
REFUSALS = [NoDeed, NoMeeting, NoLetter, NoWalker, NotThere, HasIt, NoPass, NoRoom]


class Words:
    """A trip by the document's words: all deeds that were done are gone through again for each question."""

    def __init__(self, book, letters):
        self.book, self.letters, self.deeds = book, letters, []

    def had(self, letter):
        """What each walker has, and all (walker, since) that there ever were."""
        has = {self.letters[letter][0]: self.letters[letter][1]}
        ever = list(has.items())
        for deed in self.deeds:
            if deed[0] == "drop":
                if deed[1] == letter:
                    del has[deed[2]]
            elif deed[2] == letter:
                one, other, when, many = self.book[1][deed[1]]
                taker = {one: other, other: one}[deed[3]]
                has[taker] = when
                ever.append((taker, when))
                if deed[0] == "give":
                    del has[deed[3]]
        return has, ever

    def bag(self, walker):
        return [number for number, letter in enumerate(self.letters)
                if walker in self.had(number)[0] and walker != letter[0] and walker != letter[2]]

    def come(self, letter):
        sender, since, wish, last = self.letters[letter]
        return min([time for walker, time in self.had(letter)[1] if walker == wish and time <= last], default=None)

    def fault(self, deed):
        if deed[0] == "drop":
            kind, letter, walker = deed
        else:
            kind, meeting, letter, walker = deed
            passings = [done for done in self.deeds if done[0] != "drop"]
            if not 0 <= meeting < len(self.book[1]) or any(meeting < done[1] for done in passings):
                return NoMeeting
        if not 0 <= letter < len(self.letters):
            return NoLetter
        has = self.had(letter)[0]
        if kind == "drop":
            if not 0 <= walker < len(self.book[0]):
                return NoWalker
            return None if walker in has else NotThere
        one, two, when, many = self.book[1][meeting]
        if walker not in (one, two):
            return NoWalker
        if walker not in has or has[walker] >= when:
            return NotThere
        other = two if walker == one else one
        if other in has:
            return HasIt
        if len([done for done in passings if done[1] == meeting]) >= many:
            return NoPass
        if other not in (self.letters[letter][0], self.letters[letter][2]):
            if len(self.bag(other)) >= self.book[0][other]:
                return NoRoom
        return None


def all_told(trip, book, letters):
    numbers = range(len(letters))
    having = [trip.having(letter) for letter in numbers]
    bags = [trip.bag(walker) for walker in range(len(book[0]))]
    return (having, bags, [trip.come(letter) for letter in numbers], trip.done())


class Trips(unittest.TestCase):
    def begin(self, book, letters):
        self.book, self.letters = book, letters
        self.trip = Trip(book, letters)

    def do(self, *deeds):
        for deed in deeds:
            self.assertIsNone(self.trip.do(deed))

    def refused(self, kind, deed):
        """It is refused with just this kind, and nothing is changed."""
        ahead = all_told(self.trip, self.book, self.letters)
        kept = repr(deed)
        with self.assertRaises(MeetError) as caught:
            self.trip.do(deed)
        self.assertIs(type(caught.exception), kind, deed)
        self.assertEqual(repr(deed), kept)
        self.assertEqual(all_told(self.trip, self.book, self.letters), ahead)


class Deeds(Trips):
    def setUp(self):
        self.begin(made_book([1, 1, 2, 1], [(0, 1, 3, 2), (1, 2, 5, 2), (2, 3, 8, 1)]), [(0, 1, 2, 9), (0, 2, 3, 7)])

    def test_at_first(self):
        self.assertEqual(self.trip.having(0), [(0, 1)])
        self.assertEqual(self.trip.having(1), [(0, 2)])
        self.assertEqual([self.trip.bag(walker) for walker in range(4)], [[], [], [], []])
        self.assertEqual([self.trip.come(0), self.trip.come(1)], [None, None])
        self.assertEqual(self.trip.done(), [])

    def test_give(self):
        self.do(("give", 0, 0, 0))
        self.assertEqual(self.trip.having(0), [(1, 3)])
        self.assertEqual(self.trip.bag(1), [0])
        self.assertEqual(self.trip.done(), [("give", 0, 0, 0)])

    def test_copy(self):
        self.do(("copy", 0, 0, 0))
        self.assertEqual(self.trip.having(0), [(0, 1), (1, 3)])
        self.assertEqual(self.trip.bag(0), [])
        self.assertEqual(self.trip.bag(1), [0])

    def test_drop(self):
        self.do(("copy", 0, 0, 0), ("drop", 0, 1))
        self.assertEqual(self.trip.having(0), [(0, 1)])
        self.assertEqual(self.trip.bag(1), [])
        self.do(("drop", 0, 0))
        self.assertEqual(self.trip.having(0), [])
        self.assertEqual(self.trip.done(), [("copy", 0, 0, 0), ("drop", 0, 1), ("drop", 0, 0)])

    def test_drop_has_no_time(self):
        # Ahead of its since, between deeds at one meeting, and behind all of them.
        self.do(("copy", 0, 0, 0), ("drop", 0, 1), ("copy", 0, 1, 0), ("drop", 1, 0), ("copy", 1, 1, 1))
        self.assertEqual(self.trip.having(1), [(1, 3), (2, 5)])

    def test_come(self):
        self.do(("copy", 0, 0, 0), ("copy", 1, 0, 1))
        self.assertEqual(self.trip.come(0), 5)
        self.assertIsNone(self.trip.come(1))

    def test_come_stays_when_the_wish_has_it_no_more(self):
        self.do(("copy", 0, 0, 0), ("copy", 1, 0, 1), ("give", 2, 0, 2))
        self.assertEqual(self.trip.having(0), [(0, 1), (1, 3), (3, 8)])
        self.assertEqual(self.trip.come(0), 5)
        self.do(("drop", 0, 3), ("drop", 0, 1), ("drop", 0, 0))
        self.assertEqual(self.trip.having(0), [])
        self.assertEqual(self.trip.come(0), 5)

    def test_it_has_not_come_behind_its_last(self):
        self.do(("give", 0, 1, 0), ("give", 1, 1, 1), ("give", 2, 1, 2))
        self.assertEqual(self.trip.having(1), [(3, 8)])
        self.assertIsNone(self.trip.come(1))

    def test_come_at_last_itself(self):
        for last, answer in ((2, None), (3, 3), (4, 3)):
            trip = Trip(self.book, [(0, 1, 1, last)])
            trip.do(("copy", 0, 0, 0))
            self.assertEqual(trip.come(0), answer)

    def test_come_where_the_sender_is_the_wish(self):
        trip = Trip(self.book, [(0, 4, 0, 4), (0, 4, 0, 3), (0, 0, 0, 9), (0, 0, 0, 0)])
        self.assertEqual([trip.come(number) for number in range(4)], [4, None, 0, 0])

    def test_the_least_time_where_it_comes_twice(self):
        book = made_book([0, 1], [(0, 1, 2, 9), (0, 1, 4, 9), (0, 1, 6, 9)])
        trip = Trip(book, [(0, 0, 1, 9), (0, 1, 0, 9)])
        for deed in [("give", 0, 0, 0), ("give", 0, 1, 0), ("give", 1, 0, 1), ("give", 1, 1, 1), ("give", 2, 0, 0)]:
            trip.do(deed)
        self.assertEqual(trip.having(0), [(1, 6)])
        self.assertEqual(trip.having(1), [(0, 4)])
        self.assertEqual([trip.come(0), trip.come(1)], [2, 1])

    def test_having_by_walkers(self):
        book = made_book([9] * 3, [(2, 1, 2, 9), (1, 0, 4, 9)])
        trip = Trip(book, [(2, 0, 0, 9)])
        trip.do(("copy", 0, 0, 2))
        trip.do(("copy", 1, 0, 1))
        self.assertEqual(trip.having(0), [(0, 4), (1, 2), (2, 0)])

    def test_bag_rises(self):
        book = made_book([9] * 3, [(0, 1, 2, 9)])
        trip = Trip(book, [(0, 0, 2, 9)] * 4)
        for letter in (2, 0, 3, 1):
            trip.do(("copy", 0, letter, 0))
        self.assertEqual(trip.bag(1), [0, 1, 2, 3])

    def test_both_ways_at_one_meeting(self):
        book = made_book([9] * 3, [(0, 1, 2, 3)])
        trip = Trip(book, [(0, 0, 2, 9), (1, 0, 2, 9)])
        trip.do(("give", 0, 0, 0))
        trip.do(("give", 0, 1, 1))
        self.assertEqual([trip.having(0), trip.having(1)], [[(1, 2)], [(0, 2)]])

    def test_no_letters(self):
        trip = Trip(self.book, [])
        self.assertEqual((trip.bag(0), trip.done()), ([], []))
        with self.assertRaises(NoLetter):
            trip.do(("drop", 0, 0))

    def test_earliest_chains_are_done(self):
        for place, book in enumerate(some_books(60, 60, 5, 9, 9)):
            book = made_book([9 for room in book[0]], list(book[1]))
            for letter in some_letters(place, book, 5, 9):
                chain = earliest(book, letter)
                if chain is not None:
                    trip = Trip(book, [letter])
                    for number, walker in zip(chain, walkers_along(book, letter, chain)):
                        trip.do(("give", number, 0, walker))
                    self.assertEqual(trip.come(0), earliest_times(book, letter[0], letter[1])[letter[2]])


class Refusals(Trips):
    def setUp(self):
        meetings = [(0, 1, 3, 2), (1, 2, 5, 9), (0, 1, 8, 9)]
        self.begin(made_book([9, 1, 0], meetings), [(0, 1, 2, 9), (0, 3, 2, 9), (0, 1, 2, 9), (0, 2, 1, 9)])

    def test_no_deed(self):
        odd = NO_WHOLES + [0, 5, -1, HUGE, "give", ("give",), ("give", 0), ("give", 0, 0), ("give", 0, 0, 0, 0)]
        odd += [["give", 0, 0, 0], ["drop", 0, 0], ("Give", 0, 0, 0), ("take", 0, 0, 0), ("", 0, 0, 0), (b"give", 0, 0, 0)]
        odd += [("drop", 0, 0, 0), ("drop", 0), ("drop",), ("Drop", 0, 0), ("copy", 0, 0), ("copies", 0, 0, 0)]
        odd += [(None, 0, 0, 0), (["give"], 0, 0, 0), ({}, 0, 0), (0, 0, 0, 0), (0, 0, 0), {"give": 0}, ("give", (0, 0, 0))]
        for thing in odd:
            self.refused(NoDeed, thing)

    def test_no_deed_with_things_that_are_no_whole_numbers(self):
        for thing in NO_WHOLES:
            for kind in ("give", "copy"):
                self.refused(NoDeed, (kind, thing, 0, 0))
                self.refused(NoDeed, (kind, 0, thing, 0))
                self.refused(NoDeed, (kind, 0, 0, thing))
            self.refused(NoDeed, ("drop", thing, 0))
            self.refused(NoDeed, ("drop", 0, thing))

    def test_no_meeting(self):
        for number in (-1, 3, HUGE, -HUGE):
            self.refused(NoMeeting, ("give", number, 0, 0))
            self.refused(NoMeeting, ("copy", number, 0, 0))

    def test_a_meeting_that_is_over(self):
        self.do(("copy", 0, 0, 0), ("copy", 1, 0, 1))
        self.refused(NoMeeting, ("copy", 0, 3, 0))
        self.do(("drop", 0, 1))
        self.refused(NoMeeting, ("copy", 0, 3, 0))
        # At the same one more may be done.
        self.do(("copy", 2, 0, 0))
        self.do(("copy", 2, 3, 0))
        self.refused(NoMeeting, ("copy", 1, 0, 1))

    def test_what_is_refused_makes_no_meeting_pass_over(self):
        self.refused(NotThere, ("copy", 2, 0, 1))
        self.do(("copy", 0, 0, 0))

    def test_no_letter(self):
        for number in (-1, 4, HUGE, -HUGE):
            self.refused(NoLetter, ("give", 0, number, 0))
            self.refused(NoLetter, ("copy", 0, number, 0))
            self.refused(NoLetter, ("drop", number, 0))

    def test_no_walker(self):
        for walker in (-1, 2, 3, HUGE, -HUGE):
            self.refused(NoWalker, ("give", 0, 0, walker))
            self.refused(NoWalker, ("copy", 0, 0, walker))
        for walker in (-1, 3, HUGE, -HUGE):
            self.refused(NoWalker, ("drop", 0, walker))

    def test_not_there(self):
        self.refused(NotThere, ("give", 0, 0, 1))
        self.refused(NotThere, ("copy", 1, 0, 2))
        self.refused(NotThere, ("drop", 0, 1))
        self.refused(NotThere, ("drop", 0, 2))
        # Its since is the meeting's when.
        self.refused(NotThere, ("give", 0, 1, 0))
        self.do(("give", 0, 0, 0))
        self.refused(NotThere, ("give", 0, 0, 0))
        # What came at this meeting is not given back at it.
        self.refused(NotThere, ("give", 0, 0, 1))

    def test_not_there_at_meetings_of_one_time(self):
        self.begin(made_book([9] * 4, [(0, 1, 3, 2), (2, 3, 3, 2), (1, 2, 4, 1)]), [(0, 0, 3, 9)])
        self.do(("give", 0, 0, 0))
        self.refused(NotThere, ("give", 1, 0, 2))
        self.do(("give", 2, 0, 1))

    def test_since_one_below_when(self):
        self.do(("give", 0, 3, 0))
        self.assertEqual(self.trip.having(3), [(1, 3)])

    def test_has_it(self):
        self.do(("copy", 0, 0, 0))
        self.refused(HasIt, ("copy", 2, 0, 0))
        self.refused(HasIt, ("give", 2, 0, 0))
        self.refused(HasIt, ("give", 2, 0, 1))
        self.do(("drop", 0, 0), ("give", 2, 0, 1))

    def test_no_pass(self):
        self.begin(made_book([9, 9, 9], [(0, 1, 3, 2), (0, 1, 4, 2)]), [(0, 0, 2, 9)] * 3 + [(1, 0, 2, 9)])
        self.do(("give", 0, 0, 0), ("copy", 0, 3, 1))
        self.refused(NoPass, ("copy", 0, 1, 0))
        self.refused(NoPass, ("give", 0, 1, 0))
        # What was dropped has passed nevertheless.
        self.do(("drop", 0, 1))
        self.refused(NoPass, ("copy", 0, 1, 0))
        self.do(("copy", 1, 1, 0), ("copy", 1, 2, 0))

    def test_no_room(self):
        self.do(("copy", 0, 0, 0))
        self.assertEqual(self.trip.bag(1), [0])
        self.refused(NoRoom, ("copy", 0, 2, 0))
        self.refused(NoRoom, ("give", 0, 2, 0))
        # The one that is for walker 1 takes no room there.
        self.do(("give", 0, 3, 0))
        self.assertEqual(self.trip.bag(1), [0])

    def test_room_again_behind_a_drop_and_a_give(self):
        self.do(("copy", 0, 0, 0), ("drop", 0, 1), ("copy", 0, 2, 0), ("give", 1, 2, 1), ("copy", 2, 0, 0))
        self.assertEqual([self.trip.bag(1), self.trip.bag(2)], [[0], []])
        self.refused(NoRoom, ("copy", 2, 2, 0))

    def test_no_room_needed_with_sender_and_wish(self):
        self.begin(made_book([0, 1, 0], [(0, 1, 3, 2), (0, 1, 5, 2), (1, 2, 7, 2)]), [(0, 1, 2, 9), (0, 1, 2, 9)])
        self.do(("give", 0, 0, 0))
        self.assertEqual(self.trip.bag(1), [0])
        self.do(("give", 1, 0, 1))
        self.assertEqual(self.trip.having(0), [(0, 5)])
        self.assertEqual(self.trip.bag(0), [])
        self.do(("give", 1, 1, 0), ("give", 2, 1, 1))
        self.assertEqual([self.trip.bag(2), self.trip.come(1)], [[], 7])

    def test_a_room_of_0(self):
        self.begin(made_book([9, 0, 9], [(0, 1, 3, 2)]), [(0, 1, 2, 9), (0, 1, 1, 9)])
        self.refused(NoRoom, ("copy", 0, 0, 0))
        self.do(("copy", 0, 1, 0))


class Order(Trips):
    """A deed with two faults is refused by the first of them."""

    def setUp(self):
        # Behind the first deeds 0 has the letters 0 (since 1), 1 (since 8) and 3; walker 1 has 0 and 2.
        meetings = [(0, 1, 3, 9), (0, 1, 8, 1), (0, 2, 9, 9), (0, 1, 10, 9)]
        self.begin(made_book([9, 1, 9], meetings), [(0, 1, 2, 9), (0, 8, 2, 9), (1, 1, 2, 9), (0, 1, 2, 9), (0, 1, 1, 9)])
        self.do(("copy", 0, 0, 0), ("copy", 1, 4, 0))

    def test_no_deed_first(self):
        self.refused(NoDeed, ("give", HUGE, None, 7))
        self.refused(NoDeed, ("give", HUGE, 77, True))
        self.refused(NoDeed, ("take", 77, 77, 77))
        self.refused(NoDeed, ("drop", 77, None))

    def test_no_meeting_next(self):
        self.refused(NoMeeting, ("give", 77, 77, 77))
        self.refused(NoMeeting, ("give", 0, 77, 77))
        self.refused(NoMeeting, ("copy", -1, 0, 77))
        self.refused(NoMeeting, ("copy", 0, 0, 0))

    def test_no_letter_next(self):
        self.refused(NoLetter, ("give", 1, 77, 77))
        self.refused(NoLetter, ("copy", 1, -1, 0))
        self.refused(NoLetter, ("drop", 77, 77))

    def test_no_walker_next(self):
        self.refused(NoWalker, ("give", 1, 1, 2))
        self.refused(NoWalker, ("copy", 1, 0, 77))
        self.refused(NoWalker, ("drop", 1, 77))

    def test_not_there_next(self):
        # At 8 nothing may pass any more, and the bag of 1 is full.
        self.refused(NotThere, ("copy", 1, 1, 0))
        # The other one has it, and the giver has not.
        self.refused(NotThere, ("copy", 1, 3, 1))
        self.refused(NotThere, ("copy", 3, 3, 1))

    def test_has_it_next(self):
        self.refused(HasIt, ("copy", 1, 0, 0))
        self.refused(HasIt, ("give", 1, 0, 1))

    def test_no_pass_next(self):
        self.refused(NoPass, ("copy", 1, 3, 0))
        self.refused(NoPass, ("give", 1, 3, 0))
        self.refused(NoPass, ("give", 1, 2, 1))

    def test_no_room_last(self):
        self.refused(NoRoom, ("copy", 3, 3, 0))
        self.refused(NoRoom, ("give", 3, 1, 0))


class Own(Trips):
    def test_what_is_told_is_the_askers_own(self):
        self.begin(made_book([9] * 3, [(0, 1, 3, 9), (1, 2, 5, 9)]), [(0, 1, 2, 9), (0, 0, 2, 9)])
        self.do(("copy", 0, 0, 0))
        kept = copy.deepcopy(all_told(self.trip, self.book, self.letters))
        self.trip.having(0).clear()
        self.trip.having(0).append((2, 0))
        self.trip.bag(1).append(1)
        self.trip.done().append(("copy", 1, 0, 1))
        self.trip.done().clear()
        self.assertEqual(all_told(self.trip, self.book, self.letters), kept)
        self.refused(NotThere, ("copy", 1, 0, 2))

    def test_what_is_handed_in_stays_and_may_be_changed_behind_it(self):
        book = made_book([9] * 3, [(0, 1, 3, 9), (1, 2, 5, 9)])
        letters = [(0, 1, 2, 9), (0, 0, 1, 9)]
        kept = copy.deepcopy((book, letters))
        trip = Trip(book, letters)
        trip.do(("copy", 0, 0, 0))
        self.assertEqual((book, letters), kept)
        letters[1] = (2, 0, 0, 9)
        letters.append((0, 0, 0, 0))
        trip.do(("copy", 0, 1, 0))
        self.assertEqual(trip.come(1), 3)
        with self.assertRaises(NoLetter):
            trip.do(("drop", 2, 0))

    def test_two_trips_by_turns(self):
        book = made_book([9] * 3, [(0, 1, 3, 1), (1, 2, 5, 9)])
        letters = [(0, 1, 2, 9)]
        one, other = Trip(book, letters), Trip(book, letters)
        one.do(("give", 0, 0, 0))
        one.do(("give", 1, 0, 1))
        other.do(("copy", 0, 0, 0))
        self.assertEqual([one.having(0), other.having(0)], [[(2, 5)], [(0, 1), (1, 3)]])
        self.assertEqual([one.come(0), other.come(0)], [5, None])


class ByTheWords(Trips):
    def wander(self, chance, book, letters, steps):
        trip, words = Trip(book, letters), Words(book, letters)
        seen = []
        reached = 0
        for step in range(steps):
            letter = chance.randint(-1, len(letters)) if chance.random() < 0.1 else chance.randrange(len(letters))
            if chance.random() < 0.15:
                deed = ("drop", letter, chance.randint(-1, len(book[0])))
            else:
                reached += chance.random() < 0.12
                meeting = reached + (chance.choice([-1, 1]) if chance.random() < 0.05 else 0)
                walkers = book[1][meeting][:2] if 0 <= meeting < len(book[1]) else [0]
                giver = chance.choice(list(walkers) * 4 + [chance.randint(-1, len(book[0]))])
                deed = (chance.choice(["give", "copy", "copy"]), meeting, letter, giver)
            fault = words.fault(deed)
            seen.append(fault)
            if fault is None:
                self.assertIsNone(trip.do(deed))
                words.deeds.append(deed)
            else:
                with self.assertRaises(fault):
                    trip.do(deed)
            told = ([sorted(words.had(number)[0].items()) for number in range(len(letters))],
                    [words.bag(walker) for walker in range(len(book[0]))],
                    [words.come(number) for number in range(len(letters))], words.deeds)
            self.assertEqual(all_told(trip, book, letters), told)
        return seen

    def test_wanderings(self):
        chance = random.Random(19)
        seen = []
        for place, book in enumerate(some_books(62, 90, 4, 9, 9)):
            rooms = [chance.choice([0, 1, 2]) for room in book[0]]
            book = made_book(rooms, [row[:3] + (chance.choice([1, 2, 3]),) for row in book[1]])
            letters = [(sender, since // 3, wish, last) for sender, since, wish, last in some_letters(place, book, 5, 9)]
            seen += self.wander(chance, book, letters, 50)
        self.assertEqual({kind: True for kind in seen}, {kind: True for kind in REFUSALS[1:] + [None]})

    def test_forty_letters_in_full_books(self):
        chance = random.Random(20)
        for place, book in enumerate(full_books(63, 2)):
            letters = some_letters(place, book, 40, book[1][-1][2])
            self.wander(chance, book, letters, 60)

    def test_nothing_comes_ahead_of_its_earliest_time(self):
        chance = random.Random(21)
        for place, book in enumerate(full_books(64, 4)):
            letters = some_letters(place, book, 6, book[1][-1][2] // 4)
            trip = Trip(book, letters)
            for meeting, letter in itertools.product(range(60), range(6)):
                try:
                    trip.do(("copy", meeting, letter, chance.choice(book[1][meeting][:2])))
                except MeetError:
                    pass
            for letter in range(6):
                times = earliest_times(book, letters[letter][0], letters[letter][1])
                for walker, since in trip.having(letter):
                    self.assertGreaterEqual(since, times[walker])

    def test_bounds_of_time(self):
        self.begin(made_book([1, 1], [(0, 1, 1, 1), (0, 1, TOP, 1)]), [(0, 0, 1, TOP), (0, TOP - 1, 1, TOP)])
        self.refused(NotThere, ("give", 0, 1, 0))
        self.do(("give", 0, 0, 0), ("give", 1, 1, 0))
        self.assertEqual([self.trip.come(0), self.trip.come(1)], [1, TOP])


if __name__ == "__main__":
    unittest.main()
