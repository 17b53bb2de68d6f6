"""A desk: rows of words are told to it, one at a time, and it answers each with a text."""

from satchelmeet.books import made_book
from satchelmeet.chains import arrival
from satchelmeet.changes import moved_to, without
from satchelmeet.errors import NoLetter, NoMeeting, NoName, NoRow, NoWalker, Twice
from satchelmeet.hands import fewest
from satchelmeet.leavings import latest
from satchelmeet.letters import is_letter
from satchelmeet.missed import lost, stands
from satchelmeet.newest import newest
from satchelmeet.rules import AllMet
from satchelmeet.runs import run
from satchelmeet.texts import MOST_LETTERS, is_name, parts_of, show_all
from satchelmeet.walls import earliest
from satchelmeet.wholes import is_time

FORMS = {
    "walker": ("name", "number"),
    "meet": ("name", "name", "number", "number"),
    "letter": ("name", "number", "name", "number"),
    "late": ("name", "name", "number", "number"),
    "miss": ("name", "name", "number"),
    "lost": ("name", "name", "number"),
    "rows": (),
    "comes": ("letter",),
    "fewest": ("letter",),
    "latest": ("letter",),
    "needs": ("letter",),
    "flood": (),
    "newest": ("name", "time"),
}


def add_walker(desk, parts):
    name, room = parts
    if name in desk.names:
        raise Twice("a walker of this name stands")
    rooms, meetings = desk.book
    desk.book = made_book(list(rooms) + [room], list(meetings))
    desk.names.append(name)
    return "ok"


def add_meeting(desk, parts):
    rooms, meetings = desk.book
    desk.book = made_book(list(rooms), list(meetings) + [tuple(parts)])
    return "ok"


def add_letter(desk, parts):
    letter = tuple(parts)
    if not is_letter(desk.book, letter) or len(desk.letters) >= MOST_LETTERS:
        raise NoLetter("there are at most forty letters, with times of at most 10 ** 9")
    desk.letters.append(letter)
    return "ok"


def move_meeting(desk, parts):
    one, other, when, later = parts
    desk.book = moved_to(desk.book, meeting_of(desk.book, one, other, when), later)
    return "ok"


def take_meeting_out(desk, parts):
    one, other, when = parts
    desk.book = without(desk.book, meeting_of(desk.book, one, other, when))
    return "ok"


def tell_lost(desk, parts):
    one, other, when = parts
    return in_words(lost(desk.book, desk.letters, meeting_of(desk.book, one, other, when)))


def tell_rows(desk, parts):
    return "; ".join(show_all(desk.names, desk.book, desk.letters))


def tell_comes(desk, parts):
    letter = desk.letters[parts[0]]
    chain = earliest(desk.book, letter)
    return "never" if chain is None else str(arrival(desk.book, letter, chain))


def tell_fewest(desk, parts):
    chain = fewest(desk.book, desk.letters[parts[0]])
    return "never" if chain is None else str(len(chain))


def tell_latest(desk, parts):
    told = latest(desk.book, desk.letters[parts[0]])
    return "never" if told is None else str(told[0])


def tell_needs(desk, parts):
    told = stands(desk.book, desk.letters[parts[0]])
    if told[0] == "none":
        return "never"
    if told[0] == "two":
        return "two"
    one, other, when, many = desk.book[1][told[1]]
    return f"{desk.names[one]} {desk.names[other]} {when}"


def tell_flood(desk, parts):
    deeds, times, tokens = run(desk.book, desk.letters, AllMet())
    return in_words([row[letter[2]] for row, letter in zip(times, desk.letters)])


def tell_newest(desk, parts):
    walker, time = parts
    return in_words(newest(desk.book, time)[walker])


def in_words(numbers):
    return " ".join(["-" if number is None else str(number) for number in numbers])


def meeting_of(book, one, other, when):
    """The number of the meeting of two at a time."""
    for number, meeting in enumerate(book[1]):
        if meeting[:3] in ((one, other, when), (other, one, when)):
            return number
    raise NoMeeting("these two do not meet then")


ANSWERS = {
    "walker": add_walker,
    "meet": add_meeting,
    "letter": add_letter,
    "late": move_meeting,
    "miss": take_meeting_out,
    "lost": tell_lost,
    "rows": tell_rows,
    "comes": tell_comes,
    "fewest": tell_fewest,
    "latest": tell_latest,
    "needs": tell_needs,
    "flood": tell_flood,
    "newest": tell_newest,
}


def read_words(row):
    """The first word of a row and what it tells."""
    if not isinstance(row, str):
        raise NoRow("a row is a text")
    words = row.split(" ")
    form = FORMS.get(words[0])
    parts = parts_of(words, form)
    if parts is None:
        raise NoRow("no row has these words")
    if not all([is_time(part) for sort, part in zip(form, parts) if sort == "time"]):
        raise NoRow("a time is at most 10 ** 9")
    return (words[0], parts)


class Desk:
    """Walkers, meetings and letters as they were told."""

    def __init__(self):
        self.names = []
        # No book yet, as long as there is no walker.
        self.book = ((), ())
        self.letters = []

    def say(self, row):
        word, parts = read_words(row)
        form = FORMS[word]
        if not all([is_name(part) for sort, part in zip(form, parts) if sort == "name"]):
            raise NoName("a name is one to eight small letters")
        if word != "walker":
            parts = [self.walker_of(part) if sort == "name" else part for sort, part in zip(form, parts)]
        for sort, part in zip(form, parts):
            if sort == "letter" and part >= len(self.letters):
                raise NoLetter("no letter has this number")
        answer = ANSWERS[word]
        return answer(self, parts)

    def walker_of(self, name):
        if name not in self.names:
            raise NoWalker("no walker stands by this name")
        return self.names.index(name)
