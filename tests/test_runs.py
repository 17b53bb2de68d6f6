import copy
import random
import unittest

from satchelmeet.books import made_book
from satchelmeet.errors import NoRule
from satchelmeet.rules import AllMet, Halves, Nearer
from satchelmeet.runs import run
from satchelmeet.trips import Trip
from satchelmeet.walls import earliest_times
from tests.helper import TOP, full_books, some_books, some_letters


def share_by_words(rule, letter, giver, other, tokens):
    """rule is ("all",), ("halves", tokens) or ("nearer", past)."""
    wish = letter[2]
    if rule[0] == "all" or other == wish:
        return 0
    if rule[0] == "halves":
        return tokens // 2 if tokens >= 2 else None
    met = {walker: sum({one, two} == {walker, wish} for one, two, when, many in rule[1][1]) for walker in (giver, other)}
    return 0 if met[other] > met[giver] else None


def run_by_words(book, letters, rule):
    first = rule[1] if rule[0] == "halves" else 0
    times = [{letter[0]: letter[1]} for letter in letters]
    tokens = [{letter[0]: first} for letter in letters]
    deeds = []
    for meeting, (one, two, when, many) in enumerate(book[1]):
        copied = 0
        for number, letter in enumerate(letters):
            having = [walker for walker in (one, two) if walker in times[number]]
            if len(having) != 1 or times[number][having[0]] >= when or copied == many:
                continue
            giver, other = having[0], one + two - having[0]
            load = [at for at, row in enumerate(times) if other in row and other not in (letters[at][0], letters[at][2])]
            if other not in (letter[0], letter[2]) and len(load) >= book[0][other]:
                continue
            share = share_by_words(rule, letter, giver, other, tokens[number][giver])
            if share is None:
                continue
            copied += 1
            deeds.append(("copy", meeting, number, giver))
            times[number][other] = when
            tokens[number][other] = share
            tokens[number][giver] -= share
    walkers = range(len(book[0]))
    return (deeds, [[row.get(walker) for walker in walkers] for row in times],
            [[row.get(walker) for walker in walkers] for row in tokens])


def made(rule):
    if rule[0] == "all":
        return AllMet()
    return Halves(rule[1]) if rule[0] == "halves" else Nearer(rule[1])


class Run(unittest.TestCase):
    def looked_at(self, book, letters, rule):
        kept = copy.deepcopy((book, letters, rule))
        told = run(book, letters, made(rule))
        self.assertEqual((book, letters, rule), kept)
        self.assertEqual(told, run_by_words(book, letters, rule))
        self.assertEqual([type(part) for part in (told,) + told], [tuple, list, list, list])
        deeds, times, tokens = told
        trip = Trip(book, letters)
        for deed in deeds:
            trip.do(deed)
        for number, (sender, since, wish, last) in enumerate(letters):
            having = [(walker, time) for walker, time in enumerate(times[number]) if time is not None]
            self.assertEqual(trip.having(number), having)
            least = earliest_times(book, sender, since)
            for walker, time in having:
                self.assertGreaterEqual(time, least[walker])
            has = [walker for walker, many in enumerate(tokens[number]) if many is not None]
            self.assertEqual(has, [walker for walker, time in having])
        return told


class Told(Run):
    def test_all_met(self):
        book = made_book([9] * 4, [(0, 1, 3, 9), (1, 2, 5, 9), (2, 3, 5 + 2, 9), (0, 3, 9, 9)])
        deeds, times, tokens = self.looked_at(book, [(0, 1, 3, 5), (2, 5, 0, 9)], ("all",))
        self.assertEqual(deeds, [("copy", 0, 0, 0), ("copy", 1, 0, 1), ("copy", 2, 0, 2), ("copy", 2, 1, 2), ("copy", 3, 1, 3)])
        self.assertEqual(times, [[1, 3, 5, 7], [9, None, 5, 7]])
        self.assertEqual(tokens, [[0, 0, 0, 0], [0, None, 0, 0]])

    def test_halves(self):
        book = made_book([9] * 4, [(0, 1, 2, 9), (0, 2, 3, 9), (1, 2, 4, 9), (1, 3, 5, 9), (2, 3, 6, 9)])
        deeds, times, tokens = self.looked_at(book, [(0, 0, 3, 9)], ("halves", 4))
        self.assertEqual(deeds, [("copy", 0, 0, 0), ("copy", 1, 0, 0), ("copy", 3, 0, 1)])
        self.assertEqual(times, [[0, 2, 3, 5]])
        self.assertEqual(tokens, [[1, 2, 1, 0]])

    def test_halves_of_one_goes_to_the_wish_alone(self):
        book = made_book([9] * 3, [(0, 1, 2, 9), (0, 2, 3, 9), (1, 2, 4, 9)])
        deeds, times, tokens = self.looked_at(book, [(0, 0, 2, 9)], ("halves", 1))
        self.assertEqual((deeds, times, tokens), ([("copy", 1, 0, 0)], [[0, None, 3]], [[1, None, 0]]))

    def test_the_wish_gives_on_no_tokens(self):
        book = made_book([9] * 3, [(0, 2, 2, 9), (1, 2, 3, 9)])
        self.assertEqual(self.looked_at(book, [(0, 0, 2, 9)], ("halves", 8))[0], [("copy", 0, 0, 0)])
        self.assertEqual(len(self.looked_at(book, [(0, 0, 2, 9)], ("all",))[0]), 2)

    def test_nearer(self):
        past = made_book([9] * 4, [(1, 3, 2, 9), (2, 3, 3, 9), (2, 3, 4, 9)])
        book = made_book([9] * 4, [(0, 1, 2, 9), (0, 2, 3, 9), (1, 2, 4, 9), (2, 3, 5, 9), (0, 3, 6, 9)])
        deeds, times, tokens = self.looked_at(book, [(0, 0, 3, 9), (2, 0, 3, 9)], ("nearer", past))
        self.assertEqual(deeds, [("copy", 0, 0, 0), ("copy", 1, 0, 0), ("copy", 3, 0, 2), ("copy", 3, 1, 2)])
        self.assertEqual(times, [[0, 2, 3, 5], [None, None, 0, 5]])
        self.assertEqual(tokens, [[0, 0, 0, 0], [None, None, 0, 0]])

    def test_letter_by_letter_up_to_many(self):
        book = made_book([9] * 2, [(0, 1, 2, 1), (0, 1, 4, 2)])
        letters = [(0, 0, 1, 9), (1, 0, 0, 9), (0, 0, 0, 9), (0, 0, 1, 9)]
        self.assertEqual(self.looked_at(book, letters, ("all",))[0], [("copy", 0, 0, 0), ("copy", 1, 1, 1), ("copy", 1, 2, 0)])

    def test_what_the_rule_refuses_uses_no_many(self):
        book = made_book([9] * 3, [(0, 1, 2, 1)])
        letters = [(0, 0, 2, 9), (0, 0, 1, 9)]
        self.assertEqual(self.looked_at(book, letters, ("halves", 1))[0], [("copy", 0, 1, 0)])

    def test_rooms(self):
        book = made_book([0, 1, 0], [(0, 1, 2, 9), (1, 2, 4, 9)])
        letters = [(0, 0, 2, 9), (0, 0, 2, 9), (0, 0, 1, 9), (1, 0, 0, 9)]
        deeds, times, tokens = self.looked_at(book, letters, ("all",))
        self.assertEqual(deeds, [("copy", 0, 0, 0), ("copy", 0, 2, 0), ("copy", 0, 3, 1), ("copy", 1, 0, 1)])
        # Walker 2 has no room but for what is its own.
        self.assertEqual(times, [[0, 2, 4], [0, None, None], [0, 2, None], [2, 0, None]])

    def test_what_has_no_room_takes_no_tokens(self):
        book = made_book([0, 0, 9], [(0, 1, 2, 9), (0, 2, 4, 9)])
        deeds, times, tokens = self.looked_at(book, [(0, 0, 3 - 2, 0)], ("halves", 8))
        self.assertEqual(tokens, [[4, 0, 4]])
        deeds, times, tokens = self.looked_at(made_book([0, 0, 9, 9], list(book[1])), [(0, 0, 3, 0)], ("halves", 8))
        self.assertEqual(tokens, [[4, None, 4, None]])

    def test_since_and_when(self):
        book = made_book([9, 9], [(0, 1, 5, 9)])
        for since, many in ((4, 1), (5, 0), (6, 0)):
            self.assertEqual(len(self.looked_at(book, [(0, since, 1, 9)], ("all",))[0]), many)

    def test_last_does_not_count(self):
        book = made_book([9, 9], [(0, 1, 5, 9)])
        self.assertEqual(self.looked_at(book, [(0, 0, 1, 1)], ("all",))[1], [[0, 5]])

    def test_no_letters_no_meetings(self):
        book = made_book([9, 9], [(0, 1, 5, 9)])
        for rule in (("all",), ("halves", 3), ("nearer", book)):
            self.assertEqual(self.looked_at(book, [], rule), ([], [], []))
        self.assertEqual(self.looked_at(made_book([0], []), [(0, 4, 0, 1)], ("halves", 3)), ([], [[4]], [[3]]))

    def test_sender_is_the_wish(self):
        book = made_book([9] * 2, [(0, 1, 3, 9), (0, 1, 4, 9)])
        self.assertEqual(self.looked_at(book, [(0, 1, 0, 9)], ("halves", 5)), ([("copy", 0, 0, 0)], [[1, 3]], [[3, 2]]))

    def test_nearer_needs_as_many_walkers(self):
        for many, past in ((2, 3), (3, 2), (1, 12)):
            book = made_book([9] * many, [])
            for letters in ([], [(0, 0, 0, 0)]):
                with self.assertRaises(NoRule):
                    run(book, letters, Nearer(made_book([9] * past, [])))
        self.assertEqual(run(made_book([9], []), [], Nearer(made_book([0], []))), ([], [], []))

    def test_bounds_of_time(self):
        book = made_book([9, 9], [(0, 1, 1, 9), (0, 1, TOP, 9)])
        self.assertEqual(self.looked_at(book, [(0, 0, 1, 0), (0, 1, 1, 0), (1, TOP, 0, 0)], ("all",))[1], [[0, 1], [1, TOP], [None, TOP]])


class Own(Run):
    def test_what_is_told_is_the_askers_own(self):
        book = made_book([9] * 3, [(0, 1, 2, 9), (1, 2, 4, 9)])
        letters = [(0, 0, 2, 9), (0, 0, 2, 9)]
        rule = Halves(8)
        kept = copy.deepcopy(run(book, letters, rule))
        deeds, times, tokens = run(book, letters, rule)
        deeds.clear()
        times[0].clear()
        tokens[0][0] = 77
        self.assertEqual((times[1], tokens[1]), (kept[1][1], kept[2][1]))
        self.assertEqual(run(book, letters, rule), kept)
        self.assertEqual(rule.at_first(), 8)

    def test_one_rule_for_several_books(self):
        rule = Halves(4)
        book = made_book([9] * 2, [(0, 1, 2, 9)])
        self.assertEqual(run(book, [(0, 0, 0, 9)], rule), run(book, [(0, 0, 0, 9)], Halves(4)))
        self.assertEqual(run(made_book([1], []), [(0, 0, 0, 9)], rule)[2], [[4]])


class ByTheWords(Run):
    def test_small_books(self):
        chance = random.Random(29)
        copied = 0
        for place, book in enumerate(some_books(66, 250, 5, 12, 12)):
            rooms = [chance.choice([0, 1, 2, 3]) for room in book[0]]
            book = made_book(rooms, [row[:3] + (chance.choice([1, 1, 2, 3]),) for row in book[1]])
            letters = [(sender, since // 3, wish, last) for sender, since, wish, last in some_letters(place, book, 6, 12)]
            past = made_book(rooms, [row for row in book[1] if chance.random() < 0.6])
            for rule in (("all",), ("halves", chance.choice([1, 2, 3, 5, 8, 64])), ("nearer", past)):
                copied += len(self.looked_at(book, letters, rule)[0])
        self.assertGreater(copied, 1000)

    def test_forty_letters_in_full_books(self):
        books = full_books(67, 6)
        for place, book in enumerate(books):
            book = made_book([place] * 12, [row[:3] + (1 + place * 3,) for row in book[1]])
            letters = some_letters(place, book, 40, book[1][-1][2] // 3)
            for rule in (("all",), ("halves", 64), ("nearer", books[place - 1])):
                self.assertGreater(len(self.looked_at(book, letters, rule)[0]), 5)

    def test_the_flood_with_room_for_all_has_the_earliest_times(self):
        for place, book in enumerate(full_books(68, 4)):
            book = made_book([99] * 12, [row[:3] + (99,) for row in book[1]])
            letters = some_letters(place, book, 10, book[1][-1][2] // 2)
            times = run(book, letters, AllMet())[1]
            self.assertEqual(times, [earliest_times(book, letter[0], letter[1]) for letter in letters])


if __name__ == "__main__":
    unittest.main()
