import copy
import itertools
import unittest

from satchelmeet.books import made_book
from satchelmeet.errors import NoRule
from satchelmeet.rules import AllMet, Halves, Nearer, Rule
from tests.helper import NO_WHOLES, some_books

# The wish of the letter is walker 2.
LETTER = (0, 1, 2, 9)


class Rules(unittest.TestCase):
    def says(self, answer, rule, *asked):
        told = rule.share(*asked)
        self.assertEqual(told, answer, asked)
        self.assertIs(type(told), type(answer))

    def test_none_is_made_of_rule_by_itself(self):
        with self.assertRaises(NoRule):
            Rule()

    def test_right_under_rule(self):
        for kind in (AllMet, Halves, Nearer):
            self.assertEqual(kind.__bases__, (Rule,))
        for rule in (AllMet(), Halves(3), Nearer(made_book([1], []))):
            self.assertIsInstance(rule, Rule)

    def test_all_met(self):
        rule = AllMet()
        self.assertEqual(rule.at_first(), 0)
        for giver, other, tokens in itertools.permutations(range(4), 3):
            self.says(0, rule, LETTER, giver, other, tokens)

    def test_no_tokens_where_none_are_said(self):
        self.assertIs(type(AllMet().at_first()), int)
        self.assertEqual(Nearer(made_book([1, 1], [])).at_first(), 0)


class HalvesAlone(Rules):
    def test_bounds_of_tokens(self):
        for tokens in (1, 2, 33, 63, 64):
            self.assertEqual(Halves(tokens).at_first(), tokens)
        for tokens in NO_WHOLES + [0, 65, -1, 10 ** 30, -10 ** 30, "3", [3], (3,)]:
            with self.assertRaises(NoRule):
                Halves(tokens)

    def test_to_others(self):
        rule = Halves(8)
        for tokens, answer in ((0, None), (1, None), (2, 1), (3, 1), (4, 2), (5, 2), (7, 3), (63, 31), (64, 32)):
            self.says(answer, rule, LETTER, 0, 1, tokens)
            self.says(answer, rule, LETTER, 2, 3, tokens)
            self.says(answer, rule, LETTER, 1, 0, tokens)

    def test_to_the_wish(self):
        for tokens in (0, 1, 2, 3, 64):
            self.says(0, Halves(8), LETTER, 0, 2, tokens)
            self.says(0, Halves(1), LETTER, 1, 2, tokens)

    def test_to_the_wish_of_this_letter(self):
        self.says(0, Halves(8), (2, 0, 1, 0), 2, 1, 4)
        self.says(2, Halves(8), (2, 0, 3, 0), 2, 1, 4)

    def test_not_changed_by_what_is_asked(self):
        rule = Halves(9)
        for trial in range(3):
            self.says(4, rule, LETTER, 0, 1, 9)
            self.assertEqual(rule.at_first(), 9)


class NearerAlone(Rules):
    def setUp(self):
        # With walker 2 walker 0 has one meeting, 1 has two, 3 has two, 4 none.
        meetings = [(0, 2, 1, 1), (2, 1, 2, 1), (1, 2, 3, 1), (2, 3, 4, 1), (3, 2, 5, 1), (4, 0, 6, 1), (4, 0, 7, 1), (4, 0, 8, 1)]
        self.rule = Nearer(made_book([0] * 5, meetings))

    def test_to_those_with_more_meetings(self):
        for giver, other, answer in ((0, 1, 0), (1, 0, None), (1, 3, None), (3, 1, None), (4, 0, 0), (0, 4, None), (4, 3, 0)):
            self.says(answer, self.rule, LETTER, giver, other, 0)

    def test_to_the_wish(self):
        for giver in (0, 1, 3, 4):
            self.says(0, self.rule, LETTER, giver, 2, 0)

    def test_the_wish_has_none_with_itself(self):
        for other, answer in ((0, 0), (1, 0), (3, 0), (4, None)):
            self.says(answer, self.rule, LETTER, 2, other, 0)

    def test_the_wish_of_this_letter_counts(self):
        self.says(0, self.rule, (0, 1, 0, 9), 1, 4, 0)
        self.says(None, self.rule, (0, 1, 0, 9), 4, 2, 0)
        self.says(0, self.rule, (0, 1, 0, 9), 3, 2, 0)

    def test_tokens_and_other_meetings_do_not_count(self):
        for tokens in (0, 1, 2, 3, 64):
            self.says(0, self.rule, LETTER, 0, 1, tokens)
            self.says(None, self.rule, LETTER, 1, 0, tokens)

    def test_a_past_without_meetings(self):
        rule = Nearer(made_book([0] * 3, []))
        self.says(None, rule, LETTER, 0, 1, 0)
        self.says(0, rule, LETTER, 0, 2, 0)

    def test_not_changed_by_what_is_asked(self):
        past = made_book([0] * 3, [(1, 2, 3, 1)])
        kept = copy.deepcopy(past)
        rule = Nearer(past)
        for trial in range(3):
            self.says(0, rule, LETTER, 0, 1, 0)
            self.says(None, rule, LETTER, 1, 0, 0)
        self.assertEqual(past, kept)

    def test_by_counting(self):
        for past in some_books(81, 60, 5, 14, 14):
            rule = Nearer(past)
            for giver, other, wish in itertools.product(range(len(past[0])), repeat=3):
                met = [sum({one, two} == {walker, wish} for one, two, when, many in past[1]) for walker in (giver, other)]
                answer = 0 if other == wish or met[1] > met[0] else None
                self.says(answer, rule, (0, 0, wish, 0), giver, other, 0)


if __name__ == "__main__":
    unittest.main()
