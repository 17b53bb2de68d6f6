import itertools
import random
import unittest

from satchelmeet.books import made_book
from satchelmeet.errors import MeetError, TooMany
from satchelmeet.hands import fewest
from satchelmeet.prices import price_told
from satchelmeet.spreads import spread
from satchelmeet.trees import tree_serves
from satchelmeet.walls import bars, earliest
from tests.helper import TOP, all_chains, fewest_givings, some_books, some_meetings, some_wishes


def least_of_all_trees(book, sender, since, wishes):
    """The size of the least list of givings that serves, by a look at all of them: for tiny books only."""
    for size in range(len(book[1]) + 1):
        for numbers in itertools.combinations(range(len(book[1])), size):
            for givers in itertools.product(*[book[1][number][:2] for number in numbers]):
                if tree_serves(book, sender, since, wishes, list(zip(numbers, givers))):
                    return size
    return None


def large_books(seed, many, meetings=24):
    """Books of eight walkers and so many meetings."""
    chance = random.Random(seed)
    books = []
    while len(books) < many:
        rows = some_meetings(chance, 8, 60, chance.choice([8, 12, 24, TOP]))[:meetings]
        if len(rows) == meetings:
            books.append(made_book([0] * 8, rows))
    return books


class Spread(unittest.TestCase):
    def setUp(self):
        self.book = made_book([0] * 4, [(0, 1, 2, 1), (0, 2, 3, 1), (1, 3, 4, 1), (2, 3, 5, 1), (0, 3, 6, 1)])

    def tree(self, book, sender, since, wishes):
        """The tree that is told, looked at from all sides."""
        kept = repr((book, wishes))
        told = spread(book, sender, since, wishes)
        self.assertEqual(repr((book, wishes)), kept)
        self.assertIsInstance(told, tuple)
        word, tree, prices = told
        self.assertEqual(word, "tree")
        self.assertIs(tree_serves(book, sender, since, wishes, tree), True)
        self.assertEqual(price_told(book, sender, since, wishes, prices), len(tree))
        return tree

    def never(self, book, sender, since, wishes, number):
        kept = repr((book, wishes))
        told = spread(book, sender, since, wishes)
        self.assertEqual(repr((book, wishes)), kept)
        self.assertIsInstance(told, tuple)
        self.assertEqual(repr(told[:2]), repr(("never", number)))
        self.assertEqual(len(told), 3)
        walker, last = wishes[number]
        self.assertIs(bars(book, (sender, since, walker, last), told[2]), True)

    def test_a_tree(self):
        self.assertEqual(self.tree(self.book, 0, 0, [(1, 2)]), [(0, 0)])
        self.assertEqual(self.tree(self.book, 0, 0, [(3, 4)]), [(0, 0), (2, 1)])
        self.assertEqual(self.tree(self.book, 0, 0, [(3, 6)]), [(4, 0)])
        self.assertEqual(len(self.tree(self.book, 0, 0, [(3, 6), (1, 9)])), 2)
        self.assertEqual(self.tree(self.book, 0, 0, [(3, 5), (1, 9)]), [(0, 0), (2, 1)])
        self.assertEqual(self.tree(self.book, 0, 0, [(3, 5), (2, 9)]), [(1, 0), (3, 2)])
        self.assertEqual(len(self.tree(self.book, 0, 0, [(3, 5), (2, 9), (1, 9)])), 3)
        self.assertEqual(len(self.tree(self.book, 0, 0, [(3, 4), (2, 9), (1, 9)])), 3)

    def test_a_wish_at_the_sender(self):
        self.assertEqual(self.tree(self.book, 0, 0, [(0, 0)]), [])
        self.assertEqual(self.tree(self.book, 0, 4, [(0, 4)]), [])
        self.assertEqual(self.tree(self.book, 0, 0, [(0, 0), (3, 6)]), [(4, 0)])
        self.assertEqual(self.tree(self.book, 0, 0, [(3, 6), (0, 0)]), [(4, 0)])
        self.assertEqual(self.tree(made_book([0], []), 0, TOP, [(0, TOP)]), [])
        self.never(self.book, 0, 4, [(0, 3)], 0)
        self.never(self.book, 0, 4, [(3, 6), (0, 3)], 1)
        self.never(made_book([0], []), 0, TOP, [(0, TOP - 1)], 0)

    def test_never(self):
        self.never(self.book, 0, 0, [(1, 1)], 0)
        self.never(self.book, 0, 0, [(2, 9), (1, 1)], 1)
        self.never(self.book, 0, 0, [(3, 3), (1, 1)], 0)
        self.never(self.book, 0, 0, [(0, 9), (1, 9), (2, 9), (3, 3)], 3)
        self.never(self.book, 0, 0, [(0, 9), (1, 1), (2, 1), (3, 3)], 1)
        self.never(self.book, 0, 6, [(3, 9)], 0)
        self.never(made_book([0, 0], []), 0, 0, [(1, TOP)], 0)

    def test_last_and_since_at_their_bounds(self):
        self.assertEqual(self.tree(self.book, 0, 1, [(1, 2)]), [(0, 0)])
        self.never(self.book, 0, 2, [(1, 3)], 0)
        self.never(self.book, 0, 1, [(1, 1)], 0)
        self.assertEqual(self.tree(self.book, 0, 5, [(3, 6)]), [(4, 0)])
        self.never(self.book, 0, 5, [(3, 5)], 0)
        book = made_book([0, 0], [(0, 1, 1, 1), (0, 1, TOP, 1)])
        self.assertEqual(self.tree(book, 1, TOP - 1, [(0, TOP)]), [(1, 1)])
        self.assertEqual(self.tree(book, 1, 0, [(0, 1)]), [(0, 1)])
        self.never(book, 1, TOP, [(0, TOP)], 0)

    def test_meetings_of_one_time(self):
        book = made_book([0] * 4, [(0, 1, 5, 1), (2, 3, 5, 1), (1, 2, 6, 1), (2, 3, 7, 1)])
        self.assertEqual(self.tree(book, 0, 0, [(3, 9)]), [(0, 0), (2, 1), (3, 2)])
        self.never(book, 0, 0, [(3, 6)], 0)
        self.never(book, 1, 5, [(3, 6)], 0)

    def test_all_meetings_are_needed(self):
        for many in range(1, 8):
            row = made_book([0] * (many + 1), [(walker, walker + 1, walker + 1, 1) for walker in range(many)])
            self.assertEqual(self.tree(row, 0, 0, [(many, TOP)]), [(walker, walker) for walker in range(many)])
            self.assertEqual(self.tree(row, 0, 0, [(1, 1), (many, many)][-many:]), [(walker, walker) for walker in range(many)])
        for many in range(1, 5):
            star = made_book([0] * (many + 1), [(0, walker + 1, walker + 1, 1) for walker in range(many)])
            wishes = [(walker + 1, TOP) for walker in range(many)]
            self.assertEqual(self.tree(star, 0, 0, wishes), [(walker, 0) for walker in range(many)])

    def test_too_many(self):
        self.assertTrue(issubclass(TooMany, MeetError))
        wide, long = made_book([0] * 9, []), large_books(211, 1, 25)[0]
        for book in (wide, long, made_book([0] * 9, list(long[1])), made_book([0] * 12, [])):
            # Be it that it never comes, or is there.
            for wishes in ([(1, 0)], [(0, TOP)], [(7, TOP), (0, 0)]):
                with self.assertRaises(TooMany):
                    spread(book, 0, 0, wishes)

    def test_not_too_many(self):
        self.assertEqual(self.tree(made_book([0] * 8, []), 0, 0, [(0, 0)]), [])
        self.never(made_book([0] * 8, []), 0, 0, [(7, TOP)], 0)
        for book in large_books(212, 3):
            self.assertEqual((len(book[0]), len(book[1])), (8, 24))
            self.tree(book, 0, 0, [(0, 0)])
            self.never(book, 0, 0, [(7, 0)], 0)
        rows = [(0, 1, when, 1) for when in range(1, 25)]
        self.assertEqual(len(self.tree(made_book([0, 0], rows), 0, 0, [(1, 9)])), 1)
        self.assertEqual(self.tree(made_book([0, 0], rows), 0, 23, [(1, 24)]), [(23, 0)])
        with self.assertRaises(TooMany):
            spread(made_book([0, 0], rows + [(0, 1, 25, 1)]), 0, 0, [(1, 9)])

    def test_no_tree_of_fewer(self):
        chance = random.Random(213)
        sizes = []
        for trial in range(250):
            walkers = chance.randint(1, 5)
            book = made_book([0] * walkers, some_meetings(chance, walkers, chance.choice([3, 6, 9]), 9)[:6])
            sender, since, wishes = chance.randrange(len(book[0])), chance.choice([0, 0, 2]), some_wishes(chance, book, 10)
            least = least_of_all_trees(book, sender, since, wishes)
            self.assertEqual(least, fewest_givings(book, sender, since, wishes))
            if least is None:
                missing = [not all_chains(book, (sender, since) + wish) for wish in wishes]
                self.never(book, sender, since, wishes, missing.index(True))
            else:
                self.assertEqual(len(self.tree(book, sender, since, wishes)), least)
            sizes.append(least)
        for size in (0, 1, 2, 3, None):
            self.assertGreater(sizes.count(size), 2)

    def test_as_few_as_any_in_larger_books(self):
        chance = random.Random(215)
        sizes = []
        for book in some_books(216, 400, 8, 24, 14) + large_books(223, 40):
            sender, since, wishes = chance.randrange(len(book[0])), chance.randint(0, 2), some_wishes(chance, book, 15)
            least = fewest_givings(book, sender, since, wishes)
            if least is None:
                missing = [earliest(book, (sender, since) + wish) is None for wish in wishes]
                self.never(book, sender, since, wishes, missing.index(True))
            else:
                self.assertEqual(len(self.tree(book, sender, since, wishes)), least)
            sizes.append(least)
        self.assertGreater(sizes.count(None), 20)
        for size in range(5):
            self.assertGreater(sizes.count(size), 2)

    def test_four_wishes_of_eight_walkers_and_twenty_four_meetings(self):
        chance = random.Random(217)
        sizes = []
        for book in large_books(218, 40):
            wishes = [(walker, TOP) for walker in chance.sample(range(1, 8), 4)]
            least = fewest_givings(book, 0, 0, wishes)
            if least is not None:
                self.assertEqual(len(self.tree(book, 0, 0, wishes)), least)
                sizes.append(least)
        self.assertGreater(len(sizes), 20)
        self.assertGreater(len(set(sizes)), 2)

    def test_one_wish_alone(self):
        chance = random.Random(219)
        found = 0
        for book in some_books(220, 200, 8, 24, 12):
            for wish in range(len(book[0])):
                letter = (0, chance.randint(0, 3), wish, chance.randint(4, 13))
                chain = fewest(book, letter)
                if chain is None:
                    self.never(book, 0, letter[1], [letter[2:]], 0)
                else:
                    self.assertEqual(len(self.tree(book, 0, letter[1], [letter[2:]])), len(chain))
                    found += len(chain) > 1
        self.assertGreater(found, 50)

    def test_wishes_in_another_order(self):
        chance = random.Random(221)
        for book in large_books(222, 4):
            wishes = [(walker, TOP) for walker in chance.sample(range(1, 8), 4)]
            least = fewest_givings(book, 0, 0, wishes)
            if least is not None:
                for order in itertools.permutations(wishes):
                    self.assertEqual(len(self.tree(book, 0, 0, list(order))), least)
        book = self.book
        for order in itertools.permutations([(3, 6), (1, 1), (2, 2), (0, 0)]):
            self.never(book, 0, 0, list(order), min(order.index((1, 1)), order.index((2, 2))))

    def test_what_is_told_is_the_askers_own(self):
        wishes = [(3, 5), (2, 9)]
        first, second = spread(self.book, 0, 0, wishes), spread(self.book, 0, 0, wishes)
        kept = repr(second)
        self.assertEqual(repr(first), kept)
        first[1].append((0, 0))
        for rows in first[2]:
            for row in rows:
                row[0] = 7
            rows.append([])
        first[2].clear()
        self.assertEqual(repr(second), kept)
        self.assertEqual(repr(spread(self.book, 0, 0, wishes)), kept)
        never = spread(self.book, 0, 0, [(1, 1)])
        never[2].clear()
        self.never(self.book, 0, 0, [(1, 1)], 0)

    def test_no_price_is_told_twice(self):
        # One row in two places would change in both.
        prices = spread(self.book, 0, 0, [(3, 5), (2, 9)])[2]
        rows = [row for stretch in prices for row in stretch]
        self.assertEqual(len({id(row) for row in rows}), len(rows))
        self.assertEqual(len({id(stretch) for stretch in prices}), len(prices))


if __name__ == "__main__":
    unittest.main()
