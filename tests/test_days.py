import random
import unittest

from satchelmeet.books import made_book
from satchelmeet.days import again_chain, again_times, hangs_with
from satchelmeet.errors import MeetError, NoDay
from satchelmeet.walls import earliest_times
from satchelmeet.waits import waits
from tests.helper import NO_WHOLES, TOP, full_books, some_books

HUGE = 10 ** 30
LONG = 10 ** 6


def unrolled(book, day, turns):
    """All meetings of the first rounds as (one, other, time)."""
    return [(one, other, when + turn * day) for turn in range(turns) for one, other, when, many in book[1]]


def times_by_words(book, day, sender, since):
    """The earliest times by going round all meetings again and again until nothing is better: for small sinces."""
    times = {sender: since}
    rows = unrolled(book, day, since // day + 2 * len(book[0]) + 2)
    changed = True
    while changed:
        changed = False
        for one, other, time in rows:
            for giver, taker in ((one, other), (other, one)):
                if giver in times and times[giver] < time and times.get(taker, time + 1) > time:
                    times[taker] = time
                    changed = True
    return [times.get(walker) for walker in range(len(book[0]))]


def day_books(seed, many, walkers, meetings, times):
    """Books, each with a day: as great as the last when, or more."""
    chance = random.Random(seed)
    told = []
    for book in some_books(seed, many, walkers, meetings, times):
        last = max([meeting[2] for meeting in book[1]], default=1)
        told.append((book, chance.choice([last, last, last + 1, last + 7])))
    return told


class NoDays(unittest.TestCase):
    def refused(self, book, day):
        kept = repr((book, day))
        for ask in (lambda: again_times(book, day, 0, 0), lambda: again_chain(book, day, 0, 0, 1),
                    lambda: again_chain(book, day, 0, 0, 0), lambda: waits(book, day, 0, 1)):
            with self.assertRaises(NoDay, msg=repr(day)):
                ask()
        self.assertEqual(repr((book, day)), kept)

    def taken(self, book, day):
        again_times(book, day, 0, 0)
        again_chain(book, day, 0, 0, 1)
        waits(book, day, 0, 1)

    def setUp(self):
        self.book = made_book([0] * 3, [(0, 1, 3, 1), (1, 2, 8, 1)])
        self.empty = made_book([0, 0], [])

    def test_it_is_a_refusal(self):
        self.assertTrue(issubclass(NoDay, MeetError))

    def test_of_any_kind(self):
        for book in (self.book, self.empty):
            for day in NO_WHOLES + [0, -1, -8, LONG + 1, TOP, HUGE, -HUGE, "9", [9], (9,), {9: 9}, b"9"]:
                self.refused(book, day)

    def test_the_last_when(self):
        for day in range(-3, 8):
            self.refused(self.book, day)
        for day in (8, 9, LONG - 1, LONG):
            self.taken(self.book, day)
        # The last when need not be of the two.
        self.refused(made_book([0] * 4, [(0, 1, 3, 1), (2, 3, 8, 1)]), 7)
        self.taken(made_book([0] * 4, [(0, 1, 3, 1), (2, 3, 8, 1)]), 8)

    def test_bounds(self):
        self.taken(self.empty, 1)
        self.taken(self.empty, LONG)
        self.refused(self.empty, LONG + 1)
        self.taken(made_book([0, 0], [(0, 1, 1, 1)]), 1)
        self.taken(made_book([0, 0], [(0, 1, LONG, 1)]), LONG)
        self.refused(made_book([0, 0], [(0, 1, LONG, 1)]), LONG - 1)
        for day in (LONG, LONG + 1, TOP):
            self.refused(made_book([0, 0], [(0, 1, LONG + 1, 1)]), day)


class Again(unittest.TestCase):
    def setUp(self):
        self.book = made_book([0] * 4, [(0, 1, 3, 1), (1, 2, 2, 1)])

    def look(self, book, day, sender, since):
        """The times, each with its chain looked at."""
        kept = repr(book)
        times = again_times(book, day, sender, since)
        self.assertIsInstance(times, list)
        self.assertEqual(len(times), len(book[0]))
        for wish, time in enumerate(times):
            chain = again_chain(book, day, sender, since, wish)
            if wish == sender:
                self.assertEqual((time, chain), (since, []))
            elif time is None:
                self.assertIsNone(chain)
            else:
                self.assertEqual(self.end_of(book, day, sender, since, chain), (wish, time))
        self.assertEqual([walker for walker, time in enumerate(times) if time is not None], hangs_with(book, sender))
        self.assertEqual(repr(book), kept)
        return times

    def end_of(self, book, day, sender, since, chain):
        self.assertIsInstance(chain, list)
        holder, time = sender, since
        for part in chain:
            self.assertIsInstance(part, tuple)
            number, turn = part
            self.assertIn(number, range(len(book[1])))
            self.assertGreaterEqual(turn, 0)
            one, other, when, many = book[1][number]
            self.assertIn(holder, (one, other))
            self.assertGreater(when + turn * day, time)
            holder, time = {one: other, other: one}[holder], when + turn * day
        return holder, time

    def test_rounds(self):
        self.assertEqual(self.look(self.book, 5, 0, 0), [0, 3, 7, None])
        self.assertEqual(again_chain(self.book, 5, 0, 0, 2), [(1, 0), (0, 1)])
        self.assertEqual(self.look(self.book, 5, 0, 3), [3, 8, 12, None])
        self.assertEqual(again_chain(self.book, 5, 0, 3, 2), [(1, 1), (0, 2)])
        self.assertEqual(self.look(self.book, 5, 2, 0), [3, 2, 0, None])
        self.assertEqual(self.look(self.book, 5, 3, 4), [None, None, None, 4])
        self.assertEqual(self.look(self.book, 3, 0, 0), [0, 3, 5, None])

    def test_on_and_beside_a_meetings_time_in_later_rounds(self):
        for since, time in ((2, 3), (3, 8), (4, 8), (7, 8), (8, 13), (9, 13), (12, 13), (13, 18)):
            self.assertEqual(self.look(self.book, 5, 0, since)[1], time)
        # With a when that is the day itself.
        for since, time in ((0, 3), (2, 3), (3, 6), (5, 6), (6, 9), (7, 9)):
            self.assertEqual(self.look(self.book, 3, 0, since)[1], time)

    def test_the_greatest_since(self):
        book = made_book([0] * 3, [(0, 1, 1, 1)])
        self.assertEqual(self.look(book, 1, 0, TOP), [TOP, TOP + 1, None])
        self.assertEqual(again_chain(book, 1, 0, TOP, 1), [(0, TOP)])
        self.assertEqual(self.look(book, 1, 0, TOP - 1), [TOP - 1, TOP, None])
        self.assertEqual(self.look(book, LONG, 0, TOP), [TOP, TOP + 1, None])
        self.assertEqual(self.look(book, LONG, 0, TOP - LONG + 1), [TOP - LONG + 1, TOP + 1, None])
        book = made_book([0] * 3, [(0, 1, LONG, 1), (1, 2, LONG - 1, 1)])
        self.assertEqual(self.look(book, LONG, 0, TOP), [TOP, TOP + LONG, TOP + 2 * LONG - 1])

    def test_as_many_rounds_as_there_are_walkers(self):
        for many in range(2, 13):
            rows = [(walker, walker + 1, many - walker, 1) for walker in range(many - 1)]
            book = made_book([0] * many, rows)
            for day in (many, many + 1, LONG):
                for first in (0, 5):
                    times = self.look(book, day, 0, first * day + many)
                    # With a day of many, this since is where the next round begins.
                    first_round = first + 1
                    expected = [many - walker + (first_round + walker) * day for walker in range(many - 1)]
                    self.assertEqual(times[1:], expected)
                    chain = again_chain(book, day, 0, first * day + many, many - 1)
                    self.assertEqual([turn for number, turn in chain], [first_round + at for at in range(many - 1)])
                self.assertEqual(self.look(book, day, 0, many - 1)[1:],
                                 [many - walker + walker * day for walker in range(many - 1)])

    def test_without_meetings(self):
        self.assertEqual(self.look(made_book([0], []), 1, 0, TOP), [TOP])
        self.assertEqual(self.look(made_book([0, 0, 0], []), 9, 1, 4), [None, 4, None])

    def test_by_the_words(self):
        chance = random.Random(231)
        for book, day in day_books(232, 150, 6, 8, 7):
            for trial in range(6):
                sender, since = chance.randrange(len(book[0])), chance.randint(0, 4 * day)
                self.assertEqual(self.look(book, day, sender, since), times_by_words(book, day, sender, since))

    def test_all_sinces_of_small_days(self):
        for book, day in day_books(233, 30, 5, 8, 6):
            for sender in range(len(book[0])):
                for since in range(2 * day + 2):
                    self.assertEqual(again_times(book, day, sender, since), times_by_words(book, day, sender, since))

    def test_a_later_day_is_the_same_day(self):
        for book, day in day_books(234, 60, 6, 9, 30):
            for since in (0, 1, day - 1):
                times = self.look(book, day, 0, since)
                far = (TOP - day) // day
                later = self.look(book, day, 0, since + far * day)
                self.assertEqual(later, [None if time is None else time + far * day for time in times])

    def test_first_rounds_come_as_without_rounds(self):
        for book, day in day_books(235, 60, 6, 9, 30):
            for since in (0, 5):
                for once, again in zip(earliest_times(book, 0, since), again_times(book, day, 0, since)):
                    if once is not None:
                        self.assertEqual(again, once)
                    elif again is not None:
                        self.assertGreater(again, day)

    def test_twelve_walkers_and_sixty_meetings(self):
        for book in full_books(236, 8):
            if book[1][-1][2] <= LONG:
                for day in (book[1][-1][2], LONG):
                    for sender in (0, 7):
                        for since in (0, book[1][30][2], TOP):
                            self.look(book, day, sender, since)

    def test_what_is_told_is_the_askers_own(self):
        times, chain = again_times(self.book, 5, 0, 0), again_chain(self.book, 5, 0, 0, 2)
        with_whom, here = hangs_with(self.book, 0), again_chain(self.book, 5, 0, 0, 0)
        for told in (times, chain, with_whom, here):
            told.append(7)
        self.assertEqual(again_times(self.book, 5, 0, 0), [0, 3, 7, None])
        self.assertEqual(again_chain(self.book, 5, 0, 0, 2), [(1, 0), (0, 1)])
        self.assertEqual(again_chain(self.book, 5, 0, 0, 0), [])
        self.assertEqual(hangs_with(self.book, 0), [0, 1, 2])


class HangsWith(unittest.TestCase):
    def test_some(self):
        book = made_book([0] * 6, [(4, 1, 3, 1), (1, 0, 9, 1), (3, 5, 3, 1)])
        self.assertEqual([hangs_with(book, walker) for walker in range(6)],
                         [[0, 1, 4], [0, 1, 4], [2], [3, 5], [0, 1, 4], [3, 5]])
        self.assertEqual(hangs_with(made_book([0], []), 0), [0])

    def test_in_books_that_have_no_day(self):
        book = made_book([0] * 4, [(0, 1, TOP, 1), (1, 2, LONG + 1, 1)])
        self.assertEqual([hangs_with(book, walker) for walker in range(4)], [[0, 1, 2], [0, 1, 2], [0, 1, 2], [3]])

    def test_in_whatever_number_of_steps(self):
        for rows in ([(walker, walker + 1, 40 - walker, 1) for walker in range(11)],
                     [(walker, walker + 1, 1 + walker, 1) for walker in range(11)]):
            book = made_book([0] * 12, rows)
            for walker in range(12):
                self.assertEqual(hangs_with(book, walker), list(range(12)))

    def test_by_joining(self):
        sizes = set()
        for book in some_books(237, 150, 12, 12, 9) + full_books(238, 2):
            kept = repr(book)
            together = [{walker} for walker in range(len(book[0]))]
            for one, other, when, many in book[1]:
                joined = together[one] | together[other]
                for walker in joined:
                    together[walker] = joined
            for walker in range(len(book[0])):
                self.assertEqual(hangs_with(book, walker), sorted(together[walker]))
                sizes.add(len(together[walker]))
            self.assertEqual(repr(book), kept)
        self.assertGreater(len(sizes), 6)


if __name__ == "__main__":
    unittest.main()
