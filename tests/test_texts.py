import random
import unittest

from satchelmeet.books import made_book
from satchelmeet.errors import MeetError, NoText
from satchelmeet.texts import is_name, read_all, show_all
from tests.helper import NO_WHOLES, TOP, full_books, some_books, some_letters

NAMES = "ann bob cid dan eve fay gus hal ivy jon kim lea".split()


class IsName(unittest.TestCase):
    def test_names(self):
        for thing in ("a", "z", "m", "az", "zzzzzzzz", "abcdefgh", "walker", "never", "two"):
            self.assertIs(is_name(thing), True, thing)

    def test_lengths(self):
        for size in range(12):
            self.assertIs(is_name("q" * size), 1 <= size <= 8)

    def test_other_signs(self):
        for code in range(32, 127):
            sign = chr(code)
            for thing in (sign, "a" + sign, sign + "b", "ab" + sign + "cd"):
                self.assertIs(is_name(thing), sign in "abcdefghijklmnopqrstuvwxyz", thing)
        for thing in ("a\n", "\na", "\n", "a\nb", "a\t", "A", "aB", "Ann", "ann bob", " ann", "ann ", "ann1", "1", "-", "a-b", "a_b"):
            self.assertIs(is_name(thing), False, thing)

    def test_no_text_at_all(self):
        for thing in NO_WHOLES + [0, 1, 10 ** 30, ["a"], ("a",), {"a": "a"}, {"a"}, b"a", b"ann", [], object()]:
            if not isinstance(thing, str):
                self.assertIs(is_name(thing), False, thing)


class ShowAll(unittest.TestCase):
    def test_rows(self):
        book = made_book([0, 99, 7], [(2, 1, 8, 99), (0, 1, TOP, 1), (1, 0, 1, 3)])
        letters = [(0, 0, 2, TOP), (2, TOP, 2, 0), (1, 5, 0, 5)]
        names = ["zoe", "a", "abcdefgh"]
        kept = repr((names, book, letters))
        self.assertEqual(show_all(names, book, letters), [
            "walker zoe 0", "walker a 99", "walker abcdefgh 7",
            "meet zoe a 1 3", "meet a abcdefgh 8 99", "meet zoe a 1000000000 1",
            "letter zoe 0 abcdefgh 1000000000", "letter abcdefgh 1000000000 abcdefgh 0", "letter a 5 zoe 5"])
        self.assertEqual(repr((names, book, letters)), kept)

    def test_without_meetings_and_letters(self):
        self.assertEqual(show_all(["a"], made_book([5], []), []), ["walker a 5"])
        self.assertEqual(show_all(["b", "a"], made_book([5, 6], []), [(1, 2, 0, 3)]),
                         ["walker b 5", "walker a 6", "letter a 2 b 3"])

    def test_what_is_told_is_the_askers_own(self):
        names, book = ["a", "b"], made_book([5, 6], [])
        rows = show_all(names, book, [])
        rows.append("x")
        self.assertEqual(show_all(names, book, []), ["walker a 5", "walker b 6"])
        self.assertEqual(names, ["a", "b"])


class ReadAll(unittest.TestCase):
    def setUp(self):
        self.rows = ["walker ann 5", "walker bob 0", "walker cid 99", "meet bob ann 7 2", "meet bob cid 3 99", "letter ann 0 cid 9",
                     "letter cid 4 cid 1"]

    def refused(self, rows):
        kept = repr(rows)
        with self.assertRaises(NoText, msg=kept):
            read_all(rows)
        self.assertEqual(repr(rows), kept)

    def with_row(self, place, row):
        return self.rows[:place] + [row] + self.rows[place + 1:]

    def test_read(self):
        self.assertTrue(issubclass(NoText, MeetError))
        kept = repr(self.rows)
        told = read_all(self.rows)
        self.assertEqual(repr(told), repr((["ann", "bob", "cid"], ((5, 0, 99), ((1, 2, 3, 99), (0, 1, 7, 2))),
                                           [(0, 0, 2, 9), (2, 4, 2, 1)])))
        self.assertEqual(repr(self.rows), kept)

    def test_what_is_shown_is_read_back(self):
        chance = random.Random(331)
        for number, book in enumerate(some_books(332, 150, 12, 60, 60) + full_books(333, 4)):
            names = chance.sample(NAMES, len(book[0]))
            letters = some_letters(number, book, chance.choice([0, 1, 7, 40]), chance.choice([9, TOP]))
            rows = show_all(names, book, letters)
            self.assertEqual(repr(read_all(rows)), repr((names, book, letters)))
            walkers, meetings = len(names), len(book[1])
            middle = rows[walkers:walkers + meetings]
            chance.shuffle(middle)
            self.assertEqual(repr(read_all(rows[:walkers] + middle + rows[walkers + meetings:])), repr((names, book, letters)))

    def test_either_walker_first(self):
        for row in ("meet ann bob 7 2", "meet bob ann 7 2"):
            self.assertEqual(read_all(self.rows[:3] + [row])[1], ((5, 0, 99), ((0, 1, 7, 2),)))

    def test_of_any_kind(self):
        for rows in NO_WHOLES + [0, 7, tuple(self.rows), dict(enumerate(self.rows)), "\n".join(self.rows), iter(self.rows),
                                 "; ".join(self.rows), set(self.rows), "walker ann 5"]:
            self.refused(rows)
        for row in NO_WHOLES + [0, 7, b"walker ann 5", ["walker ann 5"], ("walker", "ann", 5), ["walker", "ann", "5"]]:
            self.refused([row])
            for place in range(len(self.rows)):
                self.refused(self.with_row(place, row))
            self.refused(self.rows + [row])

    def test_numbers(self):
        good = {0: ["0", "1", "99"], 3: ["1", "10", "1000000000"], 4: ["1", "10", "99"], 5: ["0", "1000000000"], 6: ["0", "1000000000"]}
        forms = {0: "walker ann {}", 3: "meet bob ann {} 2", 4: "meet bob cid 3 {}", 5: "letter ann {} cid 9", 6: "letter ann 4 cid {}"}
        for place, form in forms.items():
            for number in good[place]:
                read_all(self.with_row(place, form.format(number)))
            for number in ("", "00", "01", "05", "099", "+1", "-1", "-0", "1.0", "1_0", "x", "a", "ann", "0x1", " 1", "1 ", "1\n", "\n1",
                           "1,", "1" * 18, "1" * 19, "0" * 18, "9" * 30, "1000000001", "1e1", "None", "True"):
                self.refused(self.with_row(place, form.format(number)))

    def test_what_a_book_does_not_let(self):
        for number in ("100", "101"):
            self.refused(self.with_row(0, "walker ann " + number))
            self.refused(self.with_row(3, "meet bob ann 7 " + number))
        for row in ("meet bob ann 0 2", "meet bob ann 7 0", "meet bob bob 7 2", "meet bob ann 3 2", "meet cid ann 3 2",
                    "meet bob cid 3 99", "meet cid bob 3 1", "meet bob ann 1000000001 2"):
            self.refused(self.with_row(3, row))
        read_all(self.with_row(3, "meet bob ann 4 2"))

    def test_what_a_letter_is_not(self):
        for row in ("letter ann 1000000001 cid 9", "letter ann 0 cid 1000000001"):
            self.refused(self.with_row(5, row))
            self.refused(self.rows + [row])

    def test_blanks(self):
        for place, row in enumerate(self.rows):
            words = row.split(" ")
            for at in range(1, len(words)):
                head, tail = " ".join(words[:at]), " ".join(words[at:])
                for between in ("  ", "\t", "\n", "", " \n", "\n ", ", "):
                    self.refused(self.with_row(place, head + between + tail))
            for changed in (" " + row, row + " ", row + "\n", "\n" + row, row.replace(" ", ""), row.replace(" ", "  "), row + ";",
                            row + "; " + row, row + "\r", ""):
                self.refused(self.with_row(place, changed))

    def test_words_less_or_more(self):
        for place, row in enumerate(self.rows):
            words = row.split(" ")
            for at in range(len(words)):
                self.refused(self.with_row(place, " ".join(words[:at] + words[at + 1:])))
                self.refused(self.with_row(place, " ".join(words[:at] + [words[at]] + words[at:])))
            self.refused(self.with_row(place, row + " 1"))
            self.refused(self.with_row(place, row + " ann"))

    def test_first_words(self):
        for place, row in enumerate(self.rows):
            first, rest = row.split(" ", 1)
            for word in ("Walker", "walkers", "walk", "meets", "Meet", "letters", "", "late", "rows", "name"):
                self.refused(self.with_row(place, word + " " + rest))
            for word in ("walker", "meet", "letter"):
                if word != first:
                    self.refused(self.with_row(place, word + " " + rest))

    def test_names(self):
        for name in ("a", "abcdefgh", "walker"):
            self.assertEqual(read_all(["walker " + name + " 1"])[0], [name])
            self.assertEqual(read_all(["walker " + name + " 1", "letter " + name + " 1 " + name + " 2"])[2], [(0, 1, 0, 2)])
        for name in ("", "abcdefghi", "Ann", "ann1", "a-b", "1", "a\n", "\n"):
            self.refused(["walker " + name + " 1"])
            self.refused(["walker " + name + " 1", "walker bob 1", "meet bob " + name + " 3 1"])
            self.refused(["walker " + name + " 1", "letter " + name + " 1 " + name + " 2"])

    def test_a_name_that_no_walker_has(self):
        for place, rows in ((3, ["meet dan ann 7 2", "meet bob dan 7 2", "meet  ann 7 2", "meet Bob ann 7 2", "meet 1 0 7 2"]),
                            (5, ["letter dan 0 cid 9", "letter ann 0 dan 9", "letter ann 0  9", "letter Ann 0 cid 9", "letter 0 0 2 9"])):
            for row in rows:
                self.refused(self.with_row(place, row))

    def test_a_name_that_two_have(self):
        for place in (1, 2):
            self.refused(self.with_row(place, "walker ann 5"))
        self.refused(["walker ann 5", "walker ann 5"])
        self.refused(["walker ann 5", "walker bob 5", "walker ann 6"])

    def test_sorts_out_of_order(self):
        for one in range(7):
            for other in range(one + 1, 7):
                rows = list(self.rows)
                rows[one], rows[other] = rows[other], rows[one]
                if rows[one].split()[0] == rows[other].split()[0]:
                    read_all(rows)
                else:
                    self.refused(rows)
        self.refused(self.rows + ["walker dan 5"])
        self.refused(self.rows + ["meet ann bob 20 1"])
        self.refused(self.rows[:5] + ["walker dan 5"])
        self.refused(self.rows[::-1])

    def test_how_many_walkers(self):
        self.refused([])
        for size in range(1, 13):
            names = NAMES[:size]
            self.assertEqual(read_all([f"walker {name} 3" for name in names]), (names, made_book([3] * size, []), []))
        self.refused([f"walker {name} 3" for name in NAMES + ["moe"]])
        self.refused(self.rows[3:4])
        self.refused(self.rows[5:])
        self.refused(self.rows[3:])

    def test_how_many_meetings(self):
        rows = [f"meet ann bob {when} 1" for when in range(1, 62)]
        walkers = self.rows[:3]
        for size in (0, 1, 59, 60):
            self.assertEqual(len(read_all(walkers + rows[:size])[1][1]), size)
        self.refused(walkers + rows)

    def test_how_many_letters(self):
        walkers = self.rows[:3]
        for size in (0, 1, 39, 40):
            self.assertEqual(read_all(walkers + ["letter ann 1 bob 2"] * size)[2], [(0, 1, 1, 2)] * size)
        self.refused(walkers + ["letter ann 1 bob 2"] * 41)

    def test_what_is_told_is_the_askers_own(self):
        told = read_all(self.rows)
        kept = repr(told)
        told[0].clear()
        told[2].append(None)
        self.assertEqual(repr(read_all(self.rows)), kept)
        again = read_all(self.rows)
        self.rows.clear()
        self.assertEqual(repr(again), kept)


if __name__ == "__main__":
    unittest.main()
