import unittest

from satchelmeet.books import is_book, made_book
from satchelmeet.claims import is_claim
from tests.helper import NO_WHOLES, TOP, full_books, other_kinds, other_numbers, some_books, variants

HUGE = 10 ** 30
MOST = 10 ** 4


# The words of point 25, of 4, 6, 12 and 19 once more.
def whole(thing, least, most):
    return type(thing) is int and least <= thing <= most


def listed(thing, least, most, kept):
    return type(thing) is list and least <= len(thing) <= most and all(kept(part) for part in thing)


def of_parts(thing, *kept):
    return type(thing) is tuple and len(thing) == len(kept) and all(look(part) for look, part in zip(kept, thing))


def book_by_words(thing, walkers):
    if type(thing) is not tuple or len(thing) != 2 or type(thing[0]) is not tuple or type(thing[1]) is not tuple:
        return False
    rooms, meetings = thing
    if len(rooms) != walkers or not all(whole(room, 0, 99) for room in rooms) or len(meetings) > 60:
        return False
    for meeting in meetings:
        if not of_parts(meeting, lambda one: whole(one, 0, walkers - 1), lambda other: whole(other, 0, walkers - 1),
                        lambda when: whole(when, 1, TOP), lambda many: whole(many, 1, 99)):
            return False
        if meeting[0] >= meeting[1]:
            return False
    spots = [(meeting[side], meeting[2]) for meeting in meetings for side in (0, 1)]
    order = [(meeting[2], meeting[0]) for meeting in meetings]
    return len(set(spots)) == len(spots) and order == sorted(order)


def claim_by_words(book, thing):
    walkers = len(book[0])

    def walker(part):
        return whole(part, 0, walkers - 1)

    def time(part):
        return whole(part, 0, TOP)

    def letter(part):
        return of_parts(part, walker, time, walker, time)

    def sacks(part):
        return listed(part, 0, 8, lambda sack: of_parts(sack, walker, time, lambda many: whole(many, 1, 99)))

    def wishes(part):
        return listed(part, 1, 4, lambda wish: of_parts(wish, walker, time)) and len(dict(part)) == len(part)

    def many(part):
        return whole(part, 0, MOST)

    def meeting(part):
        return whole(part, 0, len(book[1]) - 1)

    def other(part):
        return book_by_words(part, walkers)

    kinds = {"comes": [letter], "never": [letter], "two": [letter], "latest": [letter], "fewest": [letter],
             "needs": [letter, meeting], "earliest": [letter, time],
             "carries": [sacks, sacks, many], "no more": [sacks, sacks, many],
             "served": [walker, time, wishes, many], "no fewer": [walker, time, wishes, many],
             "parts": [other, letter], "apart": [walker, walker]}
    if type(thing) is not tuple or not thing or type(thing[0]) is not str or thing[0] not in kinds:
        return False
    return of_parts(thing[1:], *kinds[thing[0]])


LETTER_KINDS = ["comes", "never", "two", "latest", "fewest"]
SACK_KINDS = ["carries", "no more"]
WISH_KINDS = ["served", "no fewer"]


class IsClaim(unittest.TestCase):
    def setUp(self):
        self.book = made_book([0, 5, 99], [(0, 1, 3, 1), (1, 2, 5, 1), (0, 2, 8, 99)])
        self.other = made_book([1, 2, 3], [(0, 1, 3, 1), (1, 2, 3 + 1, 7)])
        self.letter = (0, 4, 1, 9)
        self.sacks = [(0, 1, 1), (2, 0, 99)]
        self.wishes = [(1, 4), (0, 7)]

    def says(self, answer, thing, book=None):
        book = book or self.book
        kept = repr((book, thing))
        self.assertIs(is_claim(book, thing), answer, thing)
        self.assertEqual(repr((book, thing)), kept)

    def claims(self):
        told = [(word, self.letter) for word in LETTER_KINDS]
        told += [("needs", self.letter, 1), ("earliest", self.letter, 5), ("apart", 0, 2), ("parts", self.other, self.letter)]
        told += [(word, self.sacks, [(1, 4, 9)], 5) for word in SACK_KINDS]
        told += [(word, 0, 3, self.wishes, 2) for word in WISH_KINDS]
        return told

    def test_each_kind(self):
        self.assertEqual(len(self.claims()), 13)
        for claim in self.claims():
            self.says(True, claim)

    def test_parts_of_other_kinds(self):
        taken = 0
        for claim in self.claims():
            for thing in variants(claim, other_kinds):
                answer = claim_by_words(self.book, thing)
                self.says(answer, thing)
                taken += answer
        # A load or a want less, a wish less.
        self.assertGreater(taken, 2)

    def test_numbers_at_their_bounds_and_beside_them(self):
        for claim in self.claims():
            for change in (other_numbers, self.bounds):
                answers = []
                for thing in variants(claim, change):
                    answers.append(claim_by_words(self.book, thing))
                    self.says(answers[-1], thing)
                self.assertEqual(set(answers), {True, False})

    def bounds(self, part):
        if type(part) is not int:
            return []
        return [0, 1, 2, 3, 4, 8, 60, 98, 99, 100, MOST - 1, MOST, MOST + 1, TOP - 1, TOP, TOP + 1, HUGE, -1, -HUGE]

    def test_walkers(self):
        for walker in (0, 1, 2):
            self.says(True, ("comes", (walker, 0, 0, 0)))
            self.says(True, ("comes", (0, 0, walker, 0)))
            self.says(True, ("apart", walker, 0))
            self.says(True, ("apart", 0, walker))
            self.says(True, ("served", walker, 0, [(walker, 0)], 0))
            self.says(True, ("carries", [(walker, 0, 1)], [(walker, 0, 1)], 0))
        for walker in NO_WHOLES + [3, -1, HUGE, -HUGE]:
            self.says(False, ("comes", (walker, 0, 0, 0)))
            self.says(False, ("comes", (0, 0, walker, 0)))
            self.says(False, ("apart", walker, 0))
            self.says(False, ("apart", 0, walker))
            self.says(False, ("served", walker, 0, [(0, 0)], 0))
            self.says(False, ("no fewer", 0, 0, [(walker, 0)], 0))
            self.says(False, ("carries", [(walker, 0, 1)], [], 0))
            self.says(False, ("no more", [], [(walker, 0, 1)], 0))

    def test_times(self):
        for time, answer in [(0, True), (1, True), (TOP, True), (TOP + 1, False), (-1, False), (HUGE, False),
                             (-HUGE, False)] + [(thing, False) for thing in NO_WHOLES]:
            for claim in (("comes", (0, time, 1, 9)), ("two", (0, 0, 1, time)), ("earliest", self.letter, time),
                          ("served", 0, time, [(1, 5)], 0), ("no fewer", 0, 0, [(1, time)], 0),
                          ("carries", [(0, time, 1)], [], 0), ("no more", [], [(0, time, 1)], 0)):
                self.says(answer, claim)

    def test_manys(self):
        for many, answer in [(0, True), (1, True), (MOST, True), (MOST + 1, False), (-1, False), (HUGE, False)] + [
                (thing, False) for thing in NO_WHOLES]:
            for word in SACK_KINDS:
                self.says(answer, (word, self.sacks, self.sacks, many))
            for word in WISH_KINDS:
                self.says(answer, (word, 0, 0, self.wishes, many))
        for many, answer in ((0, False), (1, True), (99, True), (100, False), (-1, False), (True, False)):
            for word in SACK_KINDS:
                self.says(answer, (word, [(0, 0, many)], [], 5))
                self.says(answer, (word, [], [(0, 0, many)], 5))

    def test_meetings(self):
        for meeting in (0, 1, 2):
            self.says(True, ("needs", self.letter, meeting))
        for meeting in NO_WHOLES + [3, -1, -3, HUGE]:
            self.says(False, ("needs", self.letter, meeting))
        self.says(False, ("needs", (0, 0, 0, 0), 0), made_book([0], []))

    def test_how_many_sacks(self):
        for word in SACK_KINDS:
            for size in range(11):
                self.says(size <= 8, (word, [(0, 0, 1)] * size, [], 5))
                self.says(size <= 8, (word, [], [(0, 0, 1)] * size, 5))
                self.says(size <= 8, (word, [(0, 0, 1)] * size, [(2, 2, 1)] * size, 5))
            self.says(False, (word, tuple(self.sacks), self.sacks, 5))
            self.says(False, (word, self.sacks, tuple(self.sacks), 5))
            self.says(False, (word, [[0, 0, 1]], [], 5))
            self.says(False, (word, [(0, 0)], [], 5))
            self.says(False, (word, [(0, 0, 1, 1)], [], 5))
            self.says(False, (word, self.sacks, 5))

    def test_how_many_wishes(self):
        book = made_book([0] * 6, [])
        for word in WISH_KINDS:
            for size in range(7):
                self.says(1 <= size <= 4, (word, 0, 0, [(walker, 5) for walker in range(size)], 3), book)
            self.says(False, (word, 0, 0, [(1, 5), (1, 6)], 3), book)
            self.says(False, (word, 0, 0, [(1, 5), (2, 5), (1, 5)], 3), book)
            self.says(False, (word, 0, 0, ((1, 5), (2, 5)), 3), book)
            self.says(False, (word, 0, 0, [[1, 5], (2, 5)], 3), book)
            self.says(False, (word, 0, 0, [(1,), (2, 5)], 3), book)
            self.says(False, (word, 0, 0, [(1, 5, 1), (2, 5)], 3), book)
            self.says(True, (word, 0, 0, [(0, 5), (2, 5)], 3), book)

    def test_other_books(self):
        rooms, meetings = (1, 2, 3), ((0, 1, 3, 1), (1, 2, 4, 7))
        for book in ((rooms, meetings), (rooms, ()), self.book, ((0, 0, 0), ((0, 2, 1, 1),)), ((0, 99, 0), ((0, 2, TOP, 99),))):
            self.says(True, ("parts", book, self.letter))
        for book in (
                (list(rooms), meetings), (rooms, list(meetings)), [rooms, meetings], (rooms,), (rooms, meetings, ()),
                (rooms, meetings[::-1]), (rooms, ((1, 0, 3, 1),)), (rooms, ((0, 1, 3, 1), (1, 2, 3, 1))),
                (rooms, ((0, 1, 3, 1), (0, 1, 3, 1))), (rooms[:2], ()), (rooms + (4,), ()), (rooms[:2], meetings[:1]),
                ((), ()), (rooms, ([0, 1, 3, 1],)), (rooms, ((0, 1, 3),)), (rooms, ((0, 1, 3, 1, 1),)),
                (rooms, ((0, 0, 3, 1),)), (rooms, ((0, 3, 3, 1),)), (rooms, ((-1, 1, 3, 1),)), (rooms, ((0, 1, 0, 1),)),
                (rooms, ((0, 1, TOP + 1, 1),)), (rooms, ((0, 1, 3, 0),)), (rooms, ((0, 1, 3, 100),)),
                (rooms, ((0, True, 3, 1),)), (rooms, ((False, 1, 3, 1),)), (rooms, ((0, 1, 3, True),)),
                (rooms, ((0, 1, True, 1),)), ((True, 2, 3), meetings), ((-1, 2, 3), meetings), ((100, 2, 3), meetings),
                ((None, 2, 3), meetings), (rooms, None), (None, meetings), (rooms, 0), None, "ab", 0, {}, {0: rooms},
                (rooms, "ab"), ("abc", ()), (rooms, {}), ({}, {})):
            self.says(False, ("parts", book, self.letter))
            self.assertIs(is_book(book), book in ((rooms[:2], ()), (rooms + (4,), ()), (rooms[:2], meetings[:1])))

    def test_order_of_meetings_at_one_time(self):
        book = made_book([0] * 4, [])
        meetings = ((0, 3, 5, 1), (1, 2, 5, 1))
        self.says(True, ("parts", ((0,) * 4, meetings), self.letter), book)
        self.says(False, ("parts", ((0,) * 4, meetings[::-1]), self.letter), book)

    def test_how_many_meetings_of_another_book(self):
        rows = tuple([(0, 1, when, 1) for when in range(1, 62)])
        self.says(True, ("parts", ((0,) * 3, rows[:60]), self.letter))
        self.says(False, ("parts", ((0,) * 3, rows), self.letter))

    def test_walkers_of_the_other_book(self):
        # Its letter's walkers are those of both.
        self.says(False, ("parts", self.other, (0, 0, 3, 9)))
        self.says(False, ("parts", made_book([0] * 4, []), (0, 0, 3, 9)))
        for size in range(1, 13):
            self.says(size == 3, ("parts", made_book([0] * size, []), (0, 0, 0, 9)))
            self.says(True, ("parts", made_book([0] * size, []), (0, 0, 0, 9)), made_book([0] * size, []))

    def test_words(self):
        for word in ("", "Comes", "comes ", "come", "nomore", "no  more", "nofewer", "carry", "earliest_", "letter"):
            for claim in self.claims():
                self.says(False, (word,) + claim[1:])
        for word in (None, True, 0, b"comes", ["comes"], ("comes",), {}, {"comes": 1}, set(), len):
            for claim in self.claims():
                self.says(False, (word,) + claim[1:])

    def test_a_part_less_or_more(self):
        for claim in self.claims():
            for size in range(len(claim)):
                self.says(False, claim[:size])
            self.says(False, claim + claim[-1:])
            self.says(False, claim + (None,))
            self.says(False, (claim,))
            self.says(False, list(claim))
            self.says(False, dict(enumerate(claim)))

    def test_words_of_another_kind_of_claim(self):
        words = LETTER_KINDS + SACK_KINDS + WISH_KINDS + ["needs", "earliest", "parts", "apart"]
        for claim in self.claims():
            for word in words:
                self.says(claim_by_words(self.book, (word,) + claim[1:]), (word,) + claim[1:])

    def test_no_claims_at_all(self):
        for thing in NO_WHOLES + [0, 1, -1, HUGE, ("comes",), "comes", ["comes", self.letter], (self.letter,), self.letter,
                                  ((), ()), ("comes", None), (None, None)]:
            self.says(False, thing)

    def test_books_of_any_size(self):
        for book in full_books(311, 2) + some_books(312, 10, 12, 60, 50):
            top = len(book[0]) - 1
            self.says(True, ("comes", (top, 0, top, TOP)), book)
            self.says(False, ("comes", (top, 0, top + 1, TOP)), book)
            self.says(bool(book[1]), ("needs", (top, 0, top, TOP), len(book[1]) - 1), book)
            self.says(False, ("needs", (top, 0, top, TOP), len(book[1])), book)
            self.says(True, ("served", top, 0, [(top, 0)], 4), book)
            self.says(True, ("no fewer", top, 0, [(top, 0)], MOST), book)
            self.says(True, ("carries", [(top, 0, 1)] * 8, [(top, 0, 1)] * 8, 4), book)
            self.says(True, ("parts", book, (top, 0, top, TOP)), book)

    def test_what_is_handed_in_may_be_changed_behind_it(self):
        claim = ("served", 0, 0, self.wishes, 2)
        self.says(True, claim)
        self.wishes.append(self.wishes[0])
        self.says(False, claim)


if __name__ == "__main__":
    unittest.main()
