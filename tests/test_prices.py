import copy
import random
import unittest

from satchelmeet.books import made_book
from satchelmeet.prices import price_told
from tests.helper import (TOP, fewest_givings, full_books, other_kinds, other_numbers, price_bounds, some_books,
                          some_prices, some_wishes, variants)

HUGE = 10 ** 30


def by_words(book, sender, since, wishes, prices):
    """Prices of the right form, looked at sentence by sentence."""
    for stretch, rows in enumerate(prices):
        for walker, row in enumerate(rows):
            for some, price in enumerate(row):
                if any(price > bound for bound in price_bounds(book, wishes, prices, stretch, walker, some).values()):
                    return None
    stretch = len([meeting for meeting in book[1] if meeting[2] <= since])
    return prices[stretch][sender][2 ** len(wishes) - 1]


def places(prices):
    for stretch, rows in enumerate(prices):
        for walker, row in enumerate(rows):
            for some in range(len(row)):
                yield stretch, walker, some


class PriceTold(unittest.TestCase):
    def setUp(self):
        # Wish 0 is walker 1 by 4, wish 1 walker 2 by 7; meetings at 3, 5 and 8.
        self.book = made_book([0] * 3, [(0, 1, 3, 1), (1, 2, 5, 1), (0, 2, 8, 1)])
        self.wishes = [(1, 4), (2, 7)]
        self.prices = [
            [[0, 1, 2, 2], [0, 0, 1, 1], [0, 9, 0, 9]],
            [[0, 9, 9, 9], [0, 0, 1, 1], [0, 9, 0, 9]],
            [[0, 9, 9, 9], [0, 9, 9, 9], [0, 9, 0, 9]],
            [[0, 9, 9, 9], [0, 9, 9, 9], [0, 9, 9, 9]],
        ]

    def says(self, answer, prices, sender=0, since=0, wishes=None, book=None):
        book, wishes = book or self.book, wishes or self.wishes
        kept = repr((book, wishes, prices))
        told = price_told(book, sender, since, wishes, prices)
        self.assertEqual(repr(told), repr(answer), prices)
        self.assertEqual(repr((book, wishes, prices)), kept)

    def changed(self, stretch, walker, some, price):
        prices = copy.deepcopy(self.prices)
        prices[stretch][walker][some] = price
        return prices

    def at_bound(self, stretch, walker, some, bound):
        """The bound itself is let, one more is not."""
        self.assertEqual(self.prices[stretch][walker][some], bound)
        self.says(2 if (stretch, walker, some) != (0, 0, 3) else bound, self.prices)
        self.says(None, self.changed(stretch, walker, some, bound + 1))
        self.says(None, self.changed(stretch, walker, some, HUGE))

    def test_the_price_of_the_sender_and_all_wishes(self):
        self.says(2, self.prices)
        self.says(1, self.prices, sender=1)
        self.says(9, self.prices, sender=2)
        self.says(8, self.changed(0, 2, 3, 8), sender=2)

    def test_the_stretch_of_since(self):
        for since, answer in ((0, 2), (2, 2), (3, 9), (4, 9), (5, 9), (7, 9), (8, 9), (TOP, 9)):
            self.says(answer, self.prices, since=since)
        prices = copy.deepcopy(self.prices)
        for stretch, price in enumerate((2, 6, 7, 8)):
            prices[stretch][0][3] = price
        for since, answer in ((0, 2), (2, 2), (3, 6), (4, 6), (5, 7), (7, 7), (8, 8), (TOP, 8)):
            self.says(answer, prices, since=since)

    def test_nothing_costs_nothing(self):
        nothing = [[[0] * 4 for walker in range(3)] for stretch in range(4)]
        self.says(0, nothing)

    def test_the_empty_set(self):
        for stretch, walker, some in places(self.prices):
            if some == 0:
                self.says(None, self.changed(stretch, walker, 0, 1))
                self.says(None, self.changed(stretch, walker, 0, HUGE))
        # No other condition would bar it on the last stretch.
        self.assertEqual(list(price_bounds(self.book, self.wishes, self.prices, 3, 0, 0)), ["empty"])

    def test_a_wishs_walker_in_time_and_on_the_next_stretch(self):
        self.at_bound(1, 1, 1, 0)
        self.at_bound(2, 2, 2, 0)
        # On the next stretch it pays as all others do.
        self.assertEqual(self.prices[2][1][1], 9)
        self.assertEqual(self.prices[3][2][2], 9)
        for last, stretches in ((0, 1), (2, 1), (3, 2), (4, 2), (5, 3), (7, 3), (8, 4), (TOP, 4)):
            wishes = [(1, last)]
            prices = [[[0, 9] for walker in range(3)] for stretch in range(4)]
            for stretch in range(stretches):
                prices[stretch] = [[0, 0], [0, 0], [0, 0]]
            self.says(0, prices, wishes=wishes)
            prices[stretches - 1][1][1] = 1
            self.says(None, prices, wishes=wishes)

    def test_a_wish_of_several(self):
        # Walker 1's price of both wishes is at most that of wish 1 alone, which it can but give on.
        book = made_book([0] * 3, [])
        for numbers in ([0, 0, 5, 5], [0, 0, 5, 3], [0, 0, 0, 0]):
            self.says(numbers[3], [[[0, 7, 7, 7], numbers, [0, 8, 0, 8]]], sender=1, book=book)
        for numbers in ([0, 0, 5, 6], [0, 1, 5, 5], [0, 1, 5, 6], [1, 0, 5, 5]):
            self.says(None, [[[0, 7, 7, 7], numbers, [0, 8, 0, 8]]], sender=1, book=book)

    def test_the_next_stretch(self):
        for stretch in range(3):
            for walker in range(3):
                # The wish of another one, in time on stretch 0 alone.
                wishes = [((walker + 1) % 3, 0)]
                prices = [[[0, 0] for walker in range(3)] for stretch in range(4)]
                for later in range(stretch + 1, 4):
                    prices[later] = [[0, 9] for walker in range(3)]
                prices[stretch][walker][1] = 9
                self.says(9, prices, walker, (0, 3, 5)[stretch], wishes)
                prices[stretch][walker][1] = 10
                self.says(None, prices, walker, (0, 3, 5)[stretch], wishes)
                # So says the next stretch alone.
                bounds = price_bounds(self.book, wishes, prices, stretch, walker, 1)
                self.assertEqual([name for name, bound in bounds.items() if bound < 10], ["next"])

    def test_either_way_at_a_meeting(self):
        book = made_book([0] * 3, [(0, 1, 3, 1)])
        for giver, other in ((0, 1), (1, 0)):
            wishes = [(2, 9), (other, 2)]
            for kept, given, price in (([0, 5, 9, 9], [0, 9, 3, 9], 9), ([0, 9, 9, 9], [0, 2, 3, 4], 5)):
                last = [None, None, [0, 0, 0, 0]]
                last[giver], last[other] = kept, given
                first = [[0, 0, 0, 0] for walker in range(3)]
                first[giver] = [0, min(kept[1], 1 + given[1]), min(kept[2], 1 + given[2]), price]
                self.says(price, [first, last], giver, 0, wishes, book)
                for some in (1, 2, 3):
                    more = copy.deepcopy([first, last])
                    more[0][giver][some] += 1
                    self.says(None, more, giver, 0, wishes, book)

    def test_each_condition_alone(self):
        chance = random.Random(201)
        alone = set()
        for book in some_books(202, 150, 4, 5, 6):
            wishes = some_wishes(chance, book, 7, 3)
            prices = some_prices(chance, book, wishes, chance.choice([2, 4, 9]))
            sender, since = chance.randrange(len(book[0])), chance.randint(0, 7)
            stretch = len([meeting for meeting in book[1] if meeting[2] <= since])
            self.says(prices[stretch][sender][-1], prices, sender, since, wishes, book)
            for stretch, walker, some in places(prices):
                bounds = price_bounds(book, wishes, prices, stretch, walker, some)
                prices[stretch][walker][some] += 1
                broken = [name for name, bound in bounds.items() if prices[stretch][walker][some] > bound]
                if broken:
                    self.says(None, prices, sender, since, wishes, book)
                else:
                    self.assertEqual(price_told(book, sender, since, wishes, prices),
                                     by_words(book, sender, since, wishes, prices))
                if len(broken) == 1:
                    alone.add(broken[0])
                prices[stretch][walker][some] -= 1
        self.assertLessEqual({"empty", "next", ("wish", 0), ("wish", 1), ("wish", 2)}, alone)

    def test_each_split_alone(self):
        # Keeping all and giving nothing costs one more than just keeping, so it is never broken alone.
        book = made_book([0] * 6, [(0, 1, 5, 1)])
        wishes = [(2, 9), (3, 9), (4, 9), (5, 9)]
        splits = [(part, rest) for part in range(16) for rest in range(1, 16) if part & rest == 0]
        for giver, other in ((0, 1), (1, 0)):
            for part, rest in splits:
                prices = [[[0] * 16 for walker in range(6)] for stretch in range(2)]
                prices[1][giver], prices[1][other] = [0] + [50] * 15, [0] + [50] * 15
                prices[1][giver][part] = 5 if part else 0
                prices[1][other][rest] = 7
                bound = 13 if part else 8
                prices[0][giver][part | rest] = bound
                self.says(bound if part | rest == 15 else 0, prices, giver, 0, wishes, book)
                prices[0][giver][part | rest] = bound + 1
                self.says(None, prices, giver, 0, wishes, book)
                bounds = price_bounds(book, wishes, prices, 0, giver, part | rest)
                broken = [name for name, number in bounds.items() if bound + 1 > number]
                self.assertEqual(broken, [("give", giver == 0, part, rest)])

    def test_numbers_beside(self):
        answers = []
        for prices in variants(self.prices, other_numbers):
            negative = any(prices[stretch][walker][some] < 0 for stretch, walker, some in places(prices))
            answer = None if negative else by_words(self.book, 0, 0, self.wishes, prices)
            self.says(answer, prices)
            answers.append(answer)
        self.assertGreater(len([answer for answer in answers if answer is not None]), 50)
        self.assertGreater(answers.count(None), 100)

    def test_below_nought_alone(self):
        # Each lesser number would be let, but that it is below 0.
        book = made_book([0], [])
        self.says(0, [[[0, 0]]], 0, 0, [(0, 5)], book)
        self.says(None, [[[0, -1]]], 0, 0, [(0, 5)], book)
        self.says(None, [[[0, -HUGE]]], 0, 0, [(0, 5)], book)
        self.says(None, [[[-1, -1]]], 0, 0, [(0, 5)], book)

    def test_of_thirty_figures(self):
        book = made_book([0] * 2, [(0, 1, 5, 1)])
        far = [[[0, HUGE], [0, 0]], [[0, HUGE], [0, HUGE]]]
        self.says(HUGE, far, 0, 0, [(1, 4)], book)
        self.says(HUGE, far, 0, 5, [(1, 4)], book)
        self.says(1, [[[0, 1], [0, 0]], [[0, HUGE], [0, 0]]], 0, 0, [(1, 5)], book)
        self.says(None, [[[0, HUGE], [0, 0]], [[0, HUGE], [0, 0]]], 0, 0, [(1, 5)], book)

    def test_of_anything(self):
        for thing in variants(self.prices, other_kinds):
            self.says(None, thing)

    def test_truths_are_no_numbers(self):
        for stretch, walker, some in places(self.prices):
            if self.prices[stretch][walker][some] < 2:
                self.says(None, self.changed(stretch, walker, some, bool(self.prices[stretch][walker][some])))

    def test_a_row_less_or_more(self):
        empty = [[0, 0, 0, 0] for walker in range(3)]
        for prices in ([], [empty] * 3, [empty] * 5, [empty[:2]] * 4, [empty + empty[:1]] * 4):
            self.says(None, prices)
        self.says(0, [empty] * 4)
        for size in (0, 1, 2, 3, 5, 8, 16):
            self.says(None, [[[0] * size for walker in range(3)]] * 4)
        for many in range(1, 4):
            wishes = [(walker, 9) for walker in range(many)]
            self.says(0, [[[0] * 2 ** many for walker in range(3)]] * 4, wishes=wishes)
            self.says(None, [[[0] * 2 ** (many + 1) for walker in range(3)]] * 4, wishes=wishes)

    def test_tuples_for_lists(self):
        self.says(None, tuple(self.prices))
        self.says(None, [tuple(rows) for rows in self.prices])
        self.says(None, [[tuple(row) for row in rows] for rows in self.prices])

    def test_four_wishes_in_any_book(self):
        chance = random.Random(203)
        for book in full_books(204, 3):
            wishes = [(walker, chance.choice([book[1][40][2], TOP])) for walker in chance.sample(range(12), 4)]
            prices = some_prices(chance, book, wishes, 61)
            for since in (0, book[1][0][2], book[1][30][2] - 1, TOP):
                sender = chance.randrange(12)
                stretch = len([meeting for meeting in book[1] if meeting[2] <= since])
                self.says(prices[stretch][sender][15], prices, sender, since, wishes, book)
            for trial in range(20):
                stretch, walker, some = chance.randrange(60), chance.randrange(12), chance.randrange(16)
                prices[stretch][walker][some] += 70
                self.says(None, prices, 0, 0, wishes, book)
                prices[stretch][walker][some] -= 70

    def test_no_tree_is_below_the_price(self):
        chance = random.Random(205)
        tight = 0
        for book in some_books(206, 200, 5, 7, 7):
            wishes = some_wishes(chance, book, 8)
            prices = some_prices(chance, book, wishes, 20)
            for sender in range(len(book[0])):
                since = chance.randint(0, 5)
                price = price_told(book, sender, since, wishes, prices)
                least = fewest_givings(book, sender, since, wishes)
                if least is not None:
                    self.assertLessEqual(price, least)
                    tight += 0 < price == least
        self.assertGreater(tight, 20)

    def test_what_is_told_stays(self):
        prices = copy.deepcopy(self.prices)
        self.assertEqual(price_told(self.book, 0, 0, self.wishes, prices), 2)
        prices[0][0][3] = 3
        self.assertIsNone(price_told(self.book, 0, 0, self.wishes, prices))
        self.assertEqual(price_told(self.book, 0, 0, self.wishes, self.prices), 2)


if __name__ == "__main__":
    unittest.main()
