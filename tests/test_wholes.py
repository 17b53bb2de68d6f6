import unittest

from satchelmeet.wholes import is_time, is_whole
from tests.helper import NO_WHOLES, TOP


class Wholes(unittest.TestCase):
    def test_whole_numbers_of_any_size_and_sign(self):
        for number in [0, 1, -1, 99, TOP, TOP + 1, -TOP, 10 ** 30, -10 ** 30, 2 ** 64]:
            self.assertIs(is_whole(number), True, number)

    def test_all_else_is_none(self):
        for thing in NO_WHOLES:
            self.assertIs(is_whole(thing), False, thing)


class Times(unittest.TestCase):
    def test_both_bounds_and_between(self):
        for number in [0, 1, 12345, TOP - 1, TOP]:
            self.assertIs(is_time(number), True, number)

    def test_beyond_either_bound(self):
        for number in [-1, TOP + 1, -10 ** 30, 10 ** 30]:
            self.assertIs(is_time(number), False, number)

    def test_all_else_is_none(self):
        for thing in NO_WHOLES:
            self.assertIs(is_time(thing), False, thing)


if __name__ == "__main__":
    unittest.main()
