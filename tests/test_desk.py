import random
import re
import unittest

from satchelmeet.books import made_book
from satchelmeet.chains import is_chain
from satchelmeet.desk import Desk
from satchelmeet.errors import MeetError, NoBook, NoLetter, NoMeeting, NoName, NoRow, NoText, NoWalker, Twice
from satchelmeet.texts import read_all
from tests.helper import NO_WHOLES, TOP, all_chains, end_of
from tests.test_runs import run_by_words

NAMES = "ann bob cid dan eve fay gus hal ivy jon kim lea".split()
NUMBER = "(0|[1-9][0-9]{0,17})"
WORD = "([^ ]*)"
FORMS = {
    "walker": [WORD, NUMBER], "meet": [WORD, WORD, NUMBER, NUMBER], "letter": [WORD, NUMBER, WORD, NUMBER],
    "late": [WORD, WORD, NUMBER, NUMBER], "miss": [WORD, WORD, NUMBER], "lost": [WORD, WORD, NUMBER], "rows": [],
    "comes": [NUMBER], "fewest": [NUMBER], "latest": [NUMBER], "needs": [NUMBER], "flood": [], "newest": [WORD, NUMBER]}


class SlowDesk:
    """The words of point 27 and the interface once more, with all chains gone through: for small books only."""

    def __init__(self):
        self.rooms, self.meetings, self.letters = {}, [], []

    def say(self, row):
        """An answer, or a refusal; for needs a list of all answers that are right."""
        if type(row) is not str:
            return NoRow
        for word, form in FORMS.items():
            found = re.fullmatch(" ".join([word] + form), row)
            if found:
                return self.answer(word, form, found.groups())
        return NoRow

    def answer(self, word, form, parts):
        names = [part for sort, part in zip(form, parts) if sort == WORD]
        numbers = [int(part) for sort, part in zip(form, parts) if sort == NUMBER]
        if word == "newest" and numbers[0] > TOP:
            return NoRow
        if not all(re.fullmatch("[a-z]{1,8}", name) for name in names):
            return NoName
        if word != "walker" and not all(name in self.rooms for name in names):
            return NoWalker
        if word in ("comes", "fewest", "latest", "needs") and numbers[0] >= len(self.letters):
            return NoLetter
        if word in ("late", "miss", "lost"):
            at = [place for place, (one, other, when, many) in enumerate(self.meetings)
                  if {one, other} == set(names) and when == numbers[0]]
            if not at:
                return NoMeeting
            numbers[0] = at[0]
        return getattr(self, word)(*names, *numbers)

    def book(self, rooms=None, meetings=None):
        rooms = self.rooms if rooms is None else rooms
        places = {name: place for place, name in enumerate(rooms)}
        meetings = self.meetings if meetings is None else meetings
        return made_book(list(rooms.values()), [(places[one], places[other], when, many) for one, other, when, many in meetings])

    def number(self, name):
        return list(self.rooms).index(name)

    def is_let(self, rooms, meetings):
        try:
            self.book(rooms, meetings)
        except NoBook:
            return False
        return True

    def walker(self, name, room):
        if name in self.rooms:
            return Twice
        if not self.is_let({**self.rooms, name: room}, self.meetings):
            return NoBook
        self.rooms[name] = room
        return "ok"

    def changed(self, meetings):
        if not self.is_let(self.rooms, meetings):
            return NoBook
        self.meetings = meetings
        return "ok"

    def meet(self, one, other, when, many):
        return self.changed(self.meetings + [(one, other, when, many)])

    def late(self, one, other, place, later):
        moved = self.meetings[place][:2] + (later,) + self.meetings[place][3:]
        return self.changed(self.meetings[:place] + [moved] + self.meetings[place + 1:])

    def miss(self, one, other, place):
        return self.changed(self.meetings[:place] + self.meetings[place + 1:])

    def letter(self, sender, wish, since, last):
        if since > TOP or last > TOP or len(self.letters) == 40:
            return NoLetter
        self.letters.append((self.number(sender), since, self.number(wish), last))
        return "ok"

    def lost(self, one, other, place):
        rest = self.book(meetings=self.meetings[:place] + self.meetings[place + 1:])
        return " ".join(str(number) for number, letter in enumerate(self.letters)
                        if all_chains(self.book(), letter) and not all_chains(rest, letter))

    def rows(self):
        names = list(self.rooms)
        told = [f"walker {name} {room}" for name, room in self.rooms.items()]
        if names:
            told += [f"meet {names[one]} {names[other]} {when} {many}" for one, other, when, many in self.book()[1]]
        told += [f"letter {names[sender]} {since} {names[wish]} {last}" for sender, since, wish, last in self.letters]
        return "; ".join(told)

    def comes(self, number):
        letter = self.letters[number]
        return str(min([end_of(self.book(), letter, chain) for chain in all_chains(self.book(), letter)], default="never"))

    def fewest(self, number):
        return str(min([len(chain) for chain in all_chains(self.book(), self.letters[number])], default="never"))

    def latest(self, number):
        sender, since, wish, last = self.letters[number]
        whens = [when - 1 for one, other, when, many in self.meetings] + [last]
        return str(max([since for since in whens if all_chains(self.book(), (sender, since, wish, last))], default="never"))

    def needs(self, number):
        names, book = list(self.rooms), self.book()
        chains = all_chains(book, self.letters[number])
        if not chains:
            return ["never"]
        needed = [place for place in range(len(book[1])) if all(place in chain for chain in chains)]
        return [f"{names[book[1][place][0]]} {names[book[1][place][1]]} {book[1][place][2]}" for place in needed] or ["two"]

    def flood(self):
        if not self.letters:
            return ""
        times = run_by_words(self.book(), self.letters, ("all",))[1]
        told = [row[letter[2]] for row, letter in zip(times, self.letters)]
        return " ".join("-" if time is None else str(time) for time in told)

    def newest(self, name, time):
        told = []
        for other in range(len(self.rooms)):
            whens = [when - 1 for one, another, when, many in self.meetings] + ([time] if other == self.number(name) else [])
            sinces = [since for since in whens if all_chains(self.book(), (other, since, self.number(name), time))]
            told.append(str(max(sinces, default="-")))
        return " ".join(told)


class Shared(unittest.TestCase):
    def setUp(self):
        self.desk = Desk()

    def says(self, answer, row):
        told = self.desk.say(row)
        self.assertIs(type(told), str)
        self.assertEqual(told, answer, row)

    def refused(self, refusal, row):
        kept = self.desk.say("rows")
        with self.assertRaises(MeetError, msg=repr(row)) as caught:
            self.desk.say(row)
        self.assertIs(type(caught.exception), refusal, row)
        self.assertEqual(self.desk.say("rows"), kept)

    def told(self, text):
        for row in text.split("; "):
            self.says("ok", row)


class Answers(Shared):
    def test_ok_and_rows(self):
        rows = ["walker ann 5", "walker bob 0", "walker cid 99", "meet bob cid 3 99", "meet ann bob 7 2", "letter ann 0 cid 9",
                "letter cid 4 cid 1"]
        for row in rows:
            self.says("ok", row)
        self.says("; ".join(rows), "rows")

    def test_sorts_in_any_order(self):
        self.told("walker bob 1; letter bob 0 bob 9; walker ann 2; meet bob ann 9 1; walker cid 3; meet cid ann 3 4; letter cid 1 ann 2")
        self.says("walker bob 1; walker ann 2; walker cid 3; meet ann cid 3 4; meet bob ann 9 1; letter bob 0 bob 9; letter cid 1 ann 2",
                  "rows")

    def test_nothing_told_yet(self):
        self.says("", "rows")
        self.says("", "flood")
        for word in ("comes", "fewest", "latest", "needs"):
            self.refused(NoLetter, word + " 0")
        self.refused(NoWalker, "newest ann 5")
        self.refused(NoWalker, "lost ann bob 5")
        self.told("walker ann 0")
        self.says("walker ann 0", "rows")
        self.says("", "flood")
        self.says("5", "newest ann 5")
        self.refused(NoMeeting, "lost ann ann 5")
        self.refused(NoLetter, "comes 0")

    def test_comes(self):
        self.told("walker ann 9; walker bob 9; walker cid 9; meet ann bob 3 1; meet bob cid 5 1; meet ann cid 8 1")
        self.told("letter ann 0 cid 9; letter ann 3 cid 9; letter ann 0 cid 4; letter ann 4 ann 4; letter ann 5 ann 4")
        for number, answer in enumerate(["5", "8", "never", "4", "never"]):
            self.says(answer, f"comes {number}")
        for number, answer in enumerate(["1", "1", "never", "0", "never"]):
            self.says(answer, f"fewest {number}")
        for number, answer in enumerate(["7", "7", "never", "4", "4"]):
            self.says(answer, f"latest {number}")
        for number, answer in enumerate(["two", "ann cid 8", "never", "two", "never"]):
            self.says(answer, f"needs {number}")
        self.told("letter ann 0 cid 7")
        self.says("5", "comes 5")
        self.says("2", "fewest 5")
        self.says("2", "latest 5")
        self.assertIn(self.desk.say("needs 5"), ["ann bob 3", "bob cid 5"])

    def test_needs_has_the_lesser_number_ahead(self):
        self.told("walker zoe 9; walker ann 9; meet ann zoe 4 1; letter ann 0 zoe 9; letter zoe 0 ann 9")
        self.says("zoe ann 4", "needs 0")
        self.says("zoe ann 4", "needs 1")

    def test_lost(self):
        self.told("walker ann 9; walker bob 9; walker cid 9; meet ann bob 3 1; meet bob cid 5 1; meet ann cid 8 1")
        self.says("", "lost ann bob 3")
        self.told("letter ann 0 bob 4; letter ann 0 cid 9; letter ann 0 cid 7; letter ann 0 bob 2; letter bob 1 ann 9")
        self.says("0 2", "lost ann bob 3")
        self.says("0 2", "lost bob ann 3")
        self.says("2", "lost cid bob 5")
        self.says("", "lost ann cid 8")
        self.told("miss ann bob 3")
        self.refused(NoMeeting, "lost ann bob 3")
        self.says("1 4", "lost ann cid 8")
        self.says("4", "lost bob cid 5")

    def test_flood(self):
        self.told("walker ann 9; walker bob 1; walker cid 9; meet ann bob 3 2; meet bob cid 5 1")
        self.told("letter ann 0 cid 9; letter ann 0 cid 9; letter ann 0 cid 1; letter cid 0 ann 9; letter ann 1 bob 9; letter ann 4 ann 1")
        # One may pass at 5; bob has room for one and is given his own beside it; be it behind the last.
        self.says("5 - - - 3 4", "flood")
        self.told("miss ann bob 3")
        self.says("- - - - - 4", "flood")

    def test_flood_tells_times_behind_the_last(self):
        self.told("walker ann 9; walker bob 1; meet ann bob 3 9; letter ann 0 bob 2; letter ann 0 bob 3; letter ann 3 bob 9")
        self.says("3 3 -", "flood")
        self.says("never", "comes 0")

    def test_newest(self):
        self.told("walker ann 9; walker bob 9; walker cid 9; walker dan 9; meet ann bob 3 1; meet bob cid 8 1; meet ann bob 9 1")
        self.says("9 8 7 -", "newest ann 9")
        self.says("2 7 9 -", "newest cid 9")
        self.says("- - - 9", "newest dan 9")
        self.says("0 - - -", "newest ann 0")
        self.says("1000000000 8 7 -", "newest ann 1000000000")
        self.refused(NoRow, "newest ann 1000000001")
        self.refused(NoRow, "newest ann 999999999999999999")
        self.says("999999999 8 7 -", "newest ann 999999999")

    def test_late(self):
        self.told("walker ann 9; walker bob 9; walker cid 9; meet ann bob 3 7; meet bob cid 5 1; letter ann 0 cid 9")
        self.says("5", "comes 0")
        self.told("late ann bob 3 6")
        self.says("never", "comes 0")
        self.says("walker ann 9; walker bob 9; walker cid 9; meet bob cid 5 1; meet ann bob 6 7; letter ann 0 cid 9", "rows")
        self.refused(NoMeeting, "late ann bob 3 4")
        self.told("late bob ann 6 1")
        self.says("5", "comes 0")
        # To its own when, and to one at which one of both has a meeting.
        self.told("late bob ann 1 1")
        self.refused(NoBook, "late bob ann 1 5")
        self.refused(NoBook, "late ann bob 1 5")
        self.refused(NoBook, "late cid bob 5 1")
        self.refused(NoBook, "late ann bob 1 0")
        self.refused(NoBook, "late ann bob 1 1000000001")
        self.refused(NoBook, "late ann bob 1 999999999999999999")
        self.told("late ann bob 1 1000000000; late ann bob 1000000000 1; walker dan 0; meet ann dan 8 1; late bob cid 5 8")
        self.says("8", "comes 0")

    def test_miss_and_then_lost(self):
        self.told("walker ann 9; walker bob 9; meet ann bob 3 7; meet ann bob 5 1; letter ann 0 bob 9; letter ann 0 bob 4")
        self.says("1", "lost ann bob 3")
        self.says("", "lost ann bob 5")
        self.says("ok", "miss bob ann 3")
        self.refused(NoMeeting, "lost ann bob 3")
        self.refused(NoMeeting, "miss ann bob 3")
        self.refused(NoMeeting, "late ann bob 3 4")
        self.says("0", "lost ann bob 5")
        self.says("never", "comes 1")
        self.says("5", "comes 0")
        self.says("ok", "miss ann bob 5")
        self.says("never", "comes 0")
        self.says("ok", "meet bob ann 2 1")
        self.says("2", "comes 0")
        self.says("2", "comes 1")
        self.says("0 1", "lost ann bob 2")

    def test_behind_changes_of_the_book(self):
        self.told("walker ann 0; walker bob 0; meet ann bob 3 1; letter ann 0 bob 9")
        for change, comes, fewest, latest, needs, flood, newest in (
                (None, "3", "1", "2", "ann bob 3", "3", "2 9"),
                ("late ann bob 3 9", "9", "1", "8", "ann bob 9", "9", "8 9"),
                ("late ann bob 9 10", "never", "never", "never", "never", "10", "- 9"),
                ("late ann bob 10 4", "4", "1", "3", "ann bob 4", "4", "3 9"),
                ("meet bob ann 5 1", "4", "1", "4", "two", "4", "4 9"),
                ("miss ann bob 4", "5", "1", "4", "ann bob 5", "5", "4 9"),
                ("miss ann bob 5", "never", "never", "never", "never", "-", "- 9"),
                ("walker cid 3", "never", "never", "never", "never", "-", "- 9 -"),
                ("meet cid ann 1 1", "never", "never", "never", "never", "-", "- 9 -"),
                ("meet cid bob 6 1", "6", "2", "0", None, "6", "0 9 5")):
            if change:
                self.says("ok", change)
            self.says(comes, "comes 0")
            self.says(fewest, "fewest 0")
            self.says(latest, "latest 0")
            self.says(flood, "flood")
            self.says(newest, "newest bob 9")
            if needs:
                self.says(needs, "needs 0")
            else:
                self.assertIn(self.desk.say("needs 0"), ["ann cid 1", "bob cid 6"])

    def test_twelve_walkers(self):
        for name in NAMES:
            self.told(f"walker {name} 0")
        self.refused(NoBook, "walker moe 0")
        self.refused(Twice, "walker ann 0")
        self.refused(NoWalker, "newest moe 4")

    def test_sixty_meetings(self):
        self.told("walker ann 0; walker bob 0; walker cid 0")
        for when in range(1, 61):
            self.told(f"meet ann bob {when} 1")
        self.refused(NoBook, "meet ann bob 61 1")
        self.refused(NoBook, "meet ann cid 70 1")
        self.told("late ann bob 60 61; miss ann bob 61; meet ann cid 70 1")
        self.refused(NoBook, "meet ann cid 71 1")

    def test_forty_letters(self):
        self.told("walker ann 0; walker bob 0; meet ann bob 5 99")
        for number in range(40):
            self.told(f"letter ann {number} bob 9")
            self.says("5" if number < 5 else "never", f"comes {number}")
            self.refused(NoLetter, f"comes {number + 1}")
        self.refused(NoLetter, "letter ann 0 bob 9")
        self.says("0 1 2 3 4", "lost ann bob 5")
        self.says(" ".join(["5"] * 5 + ["-"] * 35), "flood")

    def test_two_desks(self):
        other = Desk()
        self.told("walker ann 0; walker bob 1; meet ann bob 3 1; letter ann 0 bob 9")
        self.assertEqual(other.say("rows"), "")
        self.assertEqual(other.say("walker bob 7"), "ok")
        self.assertEqual(other.say("letter bob 0 bob 7"), "ok")
        self.says("walker ann 0; walker bob 1; meet ann bob 3 1; letter ann 0 bob 9", "rows")
        self.assertEqual(other.say("rows"), "walker bob 7; letter bob 0 bob 7")
        self.assertEqual(Desk().say("rows"), "")

    def test_rows_are_read_back(self):
        chance = random.Random(341)
        for trial in range(20):
            desk = Desk()
            for name in chance.sample(NAMES, chance.randint(1, 12)):
                desk.say(f"walker {name} {chance.randint(0, 99)}")
            names = [row.split(" ")[1] for row in desk.say("rows").split("; ")]
            for meeting in range(70):
                try:
                    desk.say(f"meet {chance.choice(names)} {chance.choice(names)} {chance.randint(1, 40)} {chance.randint(1, 99)}")
                except NoBook:
                    pass
            for letter in range(chance.randint(0, 40)):
                desk.say(f"letter {chance.choice(names)} {chance.randint(0, TOP)} {chance.choice(names)} {chance.randint(0, TOP)}")
            told, book, letters = read_all(desk.say("rows").split("; "))
            self.assertEqual((told, book, letters), (desk.names, desk.book, desk.letters))
            for letter in letters:
                self.assertTrue(is_chain(book, letter, []) or letter[0] != letter[2] or letter[1] > letter[3])


class Refusals(Shared):
    def setUp(self):
        self.desk = Desk()
        self.told("walker ann 5; walker bob 0; walker cid 9; meet ann bob 3 1; meet bob cid 5 1; letter ann 0 cid 9")

    def test_each_is_a_refusal_of_its_own(self):
        for refusal in (NoRow, NoName, NoWalker, NoLetter, NoMeeting, Twice, NoBook):
            self.assertEqual(refusal.__bases__, (MeetError,))
            self.assertFalse(issubclass(refusal, NoText))

    def test_rows_of_any_kind(self):
        for row in NO_WHOLES + [0, 7, 10 ** 30, b"rows", ["rows"], ("rows",), {"rows": "rows"}, ["walker", "dan", "5"], b"walker dan 5",
                                ("walker", "dan", 5), object()]:
            self.refused(NoRow, row)

    def test_words(self):
        for row in ("", " ", "  ", "row", "Rows", "rows ", " rows", "rows 1", "rows\n", "\nrows", "flood ", "flood 0", "flood flood",
                    "walker", "walker dan", "walker dan 5 5", "walker 5", "walker dan x", "walker dan ", "walker dan  5", "walker  dan 5",
                    "meet ann bob 9", "meet ann bob 9 1 1", "meet ann bob x 1", "meet ann bob 9 x", "meet ann 9 1", "meet  ann bob 9 1",
                    "letter ann 0 cid", "letter ann 0 cid 9 9", "letter ann x cid 9", "letter ann 0 cid x", "letter ann cid 0 9",
                    "late ann bob 3", "late ann bob 3 4 5", "late ann bob x 4", "late ann bob 3 x", "miss ann bob", "miss ann bob 3 3",
                    "miss ann bob x", "lost ann bob", "lost ann bob 3 3", "lost ann bob x", "comes", "comes ", "comes x", "comes 0 0",
                    "comes ann", "fewest", "fewest x", "fewest 0 0", "latest", "latest x", "latest 0 0", "needs", "needs x", "needs 0 0",
                    "newest", "newest ann", "newest ann x", "newest ann 5 5", "newest 5", "newest ann ", "Walker dan 5", "walkerdan 5",
                    "walker\ndan 5", "walker\tdan 5", "walker dan 5\n", "walker dan 5;", "comes 0\n", "rows; rows", "ok", "never"):
            self.refused(NoRow, row)

    def test_numbers(self):
        forms = ["walker dan {}", "meet ann bob {} 1", "meet ann bob 9 {}", "letter ann {} cid 9", "letter ann 0 cid {}", "late ann bob {} 4",
                 "late ann bob 3 {}", "miss ann bob {}", "lost ann bob {}", "comes {}", "fewest {}", "latest {}", "needs {}",
                 "newest ann {}"]
        for form in forms:
            for number in ("", "00", "01", "007", "+1", "-1", "1.0", "1_0", "x", "1a", "a1", "1\n", "\n1", "0x1", "1" * 19, "9" * 19,
                           "0" * 18, "9" * 30, "1,", "ann", "None", "1e1"):
                self.refused(NoRow, form.format(number))

    def test_eighteen_figures(self):
        great = "9" * 18
        for form, refusal in (("walker dan {}", NoBook), ("meet ann bob {} 1", NoBook), ("meet ann bob 9 {}", NoBook),
                              ("letter ann {} cid 9", NoLetter), ("letter ann 0 cid {}", NoLetter), ("late ann bob {} 4", NoMeeting),
                              ("late ann bob 3 {}", NoBook), ("miss ann bob {}", NoMeeting), ("lost ann bob {}", NoMeeting),
                              ("comes {}", NoLetter), ("fewest {}", NoLetter), ("latest {}", NoLetter), ("needs {}", NoLetter),
                              ("newest ann {}", NoRow)):
            self.refused(refusal, form.format(great))
            self.refused(refusal, form.format("1" + "0" * 17))

    def test_names(self):
        for name in ("", "abcdefghi", "Ann", "ann1", "a-b", "1", "a\n", "-", "ann;"):
            self.refused(NoName, f"walker {name} 5")
            for row in ("meet {} bob 9 1", "meet ann {} 9 1", "letter {} 0 cid 9", "letter ann 0 {} 9", "late {} bob 3 4",
                        "late ann {} 3 4", "miss {} bob 3", "miss ann {} 3", "lost {} bob 3", "lost ann {} 3", "newest {} 5"):
                self.refused(NoName, row.format(name))

    def test_walkers(self):
        for name in ("dan", "a", "abcdefgh", "walker"):
            for row in ("meet {} bob 9 1", "meet ann {} 9 1", "letter {} 0 cid 9", "letter ann 0 {} 9", "late {} bob 3 4",
                        "late ann {} 3 4", "miss {} bob 3", "miss ann {} 3", "lost {} bob 3", "lost ann {} 3", "newest {} 5"):
                self.refused(NoWalker, row.format(name))

    def test_letters(self):
        for word in ("comes", "fewest", "latest", "needs"):
            for number in ("1", "2", "40", "9" * 18):
                self.refused(NoLetter, f"{word} {number}")
            self.desk.say(f"{word} 0")

    def test_meetings(self):
        for words in ("ann bob 2", "ann bob 4", "ann bob 0", "ann bob 5", "bob cid 3", "ann cid 3", "ann cid 5", "ann ann 3", "bob bob 3",
                      "bob bob 5"):
            self.refused(NoMeeting, "late " + words + " 9")
            self.refused(NoMeeting, "miss " + words)
            self.refused(NoMeeting, "lost " + words)

    def test_twice(self):
        for name in ("ann", "bob", "cid"):
            self.refused(Twice, f"walker {name} 7")

    def test_what_a_book_does_not_let(self):
        for row in ("walker dan 100", "meet ann ann 9 1", "meet ann bob 0 1", "meet ann bob 1000000001 1", "meet ann bob 9 0",
                    "meet ann bob 9 100", "meet ann bob 3 1", "meet bob ann 3 1", "meet ann cid 3 1", "meet ann cid 5 1",
                    "late ann bob 3 0", "late ann bob 3 5", "late ann bob 3 1000000001"):
            self.refused(NoBook, row)
        for row in ("walker dan 99", "meet ann bob 1 1", "meet ann bob 1000000000 99", "meet ann dan 5 1", "late ann bob 3 2"):
            self.says("ok", row)

    def test_what_a_letter_is_not(self):
        self.refused(NoLetter, "letter ann 1000000001 cid 9")
        self.refused(NoLetter, "letter ann 0 cid 1000000001")
        self.says("ok", "letter ann 1000000000 cid 1000000000")
        self.says("ok", "letter ann 0 ann 0")

    def test_the_first_of_two_faults(self):
        for row, refusal in (
                # No row, ahead of all names.
                ("walker Dan x", NoRow), ("walker ann x", NoRow), ("meet Ann dan 9 x", NoRow), ("newest Ann 1000000001", NoRow),
                ("newest dan 1000000001", NoRow), ("letter Ann 0 cid", NoRow), ("late dan bob 3 x", NoRow), ("comes  9", NoRow),
                # No name, in whatever place, ahead of no walker.
                ("meet dan Bob 9 1", NoName), ("meet Dan bob 0 0", NoName), ("letter dan 0 Cid 9", NoName), ("late dan Bob 3 4", NoName),
                ("miss dan Bob 3", NoName), ("lost dan Bob 9", NoName), ("walker Dan 100", NoName), ("newest Ann 5", NoName),
                ("letter ann 1000000001  9", NoName),
                # No walker, ahead of what is not let.
                ("meet dan dan 0 0", NoWalker), ("meet ann dan 3 1", NoWalker), ("letter dan 1000000001 ann 9", NoWalker),
                ("late dan bob 9 0", NoWalker), ("late ann dan 3 5", NoWalker), ("miss ann dan 9", NoWalker),
                # No meeting, ahead of no book.
                ("late ann bob 9 0", NoMeeting), ("late ann ann 3 5", NoMeeting), ("late ann cid 3 5", NoMeeting),
                # Twice, ahead of no book.
                ("walker ann 100", Twice)):
            self.refused(refusal, row)
        for name in NAMES[3:]:
            self.told(f"walker {name} 1")
        self.refused(Twice, "walker ann 1")
        self.refused(NoBook, "walker moe 1")
        self.refused(NoName, "walker Moe 1")
        for number in range(39):
            self.told("letter ann 0 cid 9")
        self.refused(NoWalker, "letter moe 0 cid 9")
        self.refused(NoName, "letter Moe 0 cid 9")
        self.refused(NoRow, "letter ann 0 cid x")
        self.refused(NoLetter, "letter ann 0 cid 9")

    def test_what_is_refused_changes_nothing(self):
        answers = [self.desk.say(row) for row in ("rows", "comes 0", "flood", "newest cid 9", "lost ann bob 3", "latest 0", "fewest 0")]
        for row in ("walker ann 7", "walker dan 100", "meet ann bob 3 1", "late ann bob 3 5", "late bob cid 5 3", "letter ann 1000000001 cid 9",
                    "miss ann bob 4", "rows ", "newest ann 1000000001", "meet ann cid 5 1"):
            with self.assertRaises(MeetError):
                self.desk.say(row)
            again = [self.desk.say(row) for row in ("rows", "comes 0", "flood", "newest cid 9", "lost ann bob 3", "latest 0", "fewest 0")]
            self.assertEqual(again, answers)
        # A name that was refused with its room stands not.
        self.refused(NoWalker, "newest dan 5")
        self.says("ok", "walker dan 99")


class ByTheWords(Shared):
    """Rows at large, right and wrong ones, told to a desk and to a slow one."""

    def some_row(self, chance, meetings):
        names = chance.choice([["ann", "bob", "cid", "dan"]] * 6 + [["ann", "bob", "cid", "dan", "zoe", "Ann", "", "abcdefghi"]])
        numbers = chance.choice([["0", "1", "2", "3", "4", "5", "6", "7"]] * 6 + [["0", "05", "", "x", "100", str(TOP), str(TOP + 1),
                                                                                   "9" * 18, "9" * 19, "-1"]])
        word = chance.choice(list(FORMS) + ["meet", "letter", "meet", "walker"])
        words = [word] + [chance.choice(names if sort == WORD else numbers) for sort in FORMS[word]]
        if word in ("late", "miss", "lost") and meetings and chance.random() < 0.5:
            one, other, when, many = chance.choice(meetings)
            words[1:4] = [one, other, str(when)]
        if chance.random() < 0.03:
            words.insert(chance.randint(0, len(words)), chance.choice(["", "ann", "1"]))
        return " ".join(words)

    def test_rows_at_large(self):
        chance = random.Random(342)
        seen = {}
        for trial in range(60):
            desk, slow = Desk(), SlowDesk()
            for row in ("walker ann 1", "walker bob 0", "walker cid 5")[:chance.randint(0, 3)]:
                self.assertEqual(desk.say(row), slow.say(row))
            for step in range(80):
                row = self.some_row(chance, slow.meetings)
                if row.startswith("meet ") and len(slow.meetings) > 7:
                    continue
                expected = slow.say(row)
                try:
                    told = desk.say(row)
                except MeetError as error:
                    told = type(error)
                if isinstance(expected, list):
                    self.assertIn(told, expected, row)
                else:
                    self.assertEqual(told, expected, (row, slow.rows()))
                if isinstance(told, type):
                    self.assertEqual(desk.say("rows"), slow.rows())
                kind = told if isinstance(told, type) else "answer"
                seen[row.split(" ")[0], kind] = seen.get((row.split(" ")[0], kind), 0) + 1
        for word in FORMS:
            self.assertGreater(seen.get((word, "answer"), 0), 10, word)
        for word, refusal in (("walker", Twice), ("walker", NoBook), ("walker", NoName), ("meet", NoBook), ("meet", NoWalker),
                              ("letter", NoLetter), ("late", NoMeeting), ("late", NoBook), ("miss", NoMeeting), ("lost", NoMeeting),
                              ("comes", NoLetter), ("newest", NoRow), ("newest", NoWalker), ("newest", NoName)):
            self.assertGreater(seen.get((word, refusal), 0), 2, (word, refusal))


if __name__ == "__main__":
    unittest.main()
