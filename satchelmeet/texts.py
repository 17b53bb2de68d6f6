"""Texts: names, books and letters as rows of words, and read back."""

from satchelmeet.books import made_book
from satchelmeet.errors import NoBook, NoText
from satchelmeet.letters import is_letter

LONGEST_NAME = 8
MOST_FIGURES = 18
MOST_LETTERS = 40

SORTS = ("walker", "meet", "letter")
FORMS = {
    "walker": ("name", "number"),
    "meet": ("name", "name", "number", "number"),
    "letter": ("name", "number", "name", "number"),
}


def is_name(thing):
    if not isinstance(thing, str) or not 1 <= len(thing) <= LONGEST_NAME:
        return False
    return all(["a" <= sign <= "z" for sign in thing])


def number_of(word):
    """The whole number that a word tells, or None."""
    if not 1 <= len(word) <= MOST_FIGURES or not all(["0" <= sign <= "9" for sign in word]):
        return None
    return None if word[0] == "0" and len(word) > 1 else int(word)


def parts_of(words, form):
    """What is told behind the first word, names as they are; None where the words have not this form."""
    if form is None or len(words) != len(form) + 1:
        return None
    parts = [word if sort == "name" else number_of(word) for sort, word in zip(form, words[1:])]
    return None if None in parts else parts


def show_all(names, book, letters):
    rooms, meetings = book
    rows = [f"walker {name} {room}" for name, room in zip(names, rooms)]
    rows += [f"meet {names[one]} {names[other]} {when} {many}" for one, other, when, many in meetings]
    rows += [f"letter {names[sender]} {since} {names[wish]} {last}" for sender, since, wish, last in letters]
    return rows


def read_all(rows):
    if not isinstance(rows, list):
        raise NoText("rows are a list")
    read = [read_row(row) for row in rows]
    places = [SORTS.index(sort) for sort, parts in read]
    if places != sorted(places):
        raise NoText("walkers stand ahead of meetings, and these ahead of letters")
    names = [parts[0] for sort, parts in read if sort == "walker"]
    if not all([is_name(name) for name in names]) or len(set(names)) != len(names):
        raise NoText("walkers have unlike names of one to eight small letters")
    book = read_book(names, read)
    return (names, book, read_letters(names, book, read))


def read_row(row):
    """The sort of a row and what it tells."""
    if not isinstance(row, str):
        raise NoText("a row is a text")
    words = row.split(" ")
    parts = parts_of(words, FORMS.get(words[0]))
    if parts is None:
        raise NoText("a row has the words of a walker, a meeting or a letter")
    return (words[0], parts)


def read_book(names, read):
    rooms = [parts[1] for sort, parts in read if sort == "walker"]
    meetings = []
    for sort, parts in read:
        if sort == "meet":
            one, other, when, many = parts
            meetings.append((number_in(names, one), number_in(names, other), when, many))
    try:
        return made_book(rooms, meetings)
    except NoBook:
        raise NoText("these walkers and meetings make no book") from None


def read_letters(names, book, read):
    letters = []
    for sort, parts in read:
        if sort == "letter":
            sender, since, wish, last = parts
            letters.append((number_in(names, sender), since, number_in(names, wish), last))
    if len(letters) > MOST_LETTERS or not all([is_letter(book, letter) for letter in letters]):
        raise NoText("there are at most forty letters, with times of at most 10 ** 9")
    return letters


def number_in(names, name):
    if name not in names:
        raise NoText("no walker has this name")
    return names.index(name)
