"""Changes: new books made of a book, which itself stays as it is."""

from satchelmeet.books import is_meeting_number, made_book
from satchelmeet.errors import NoBook, NoMeeting
from satchelmeet.wholes import LAST_TIME, is_whole


def without(book, meeting):
    need_meeting(book, meeting)
    rooms, meetings = book
    return made_book(list(rooms), [row for number, row in enumerate(meetings) if number != meeting])


def moved_to(book, meeting, when):
    need_meeting(book, meeting)
    rooms, meetings = book
    changed = list(meetings)
    one, other, ahead, many = changed[meeting]
    changed[meeting] = (one, other, when, many)
    return made_book(list(rooms), changed)


def part_of(book, behind, upto):
    if not is_whole(behind) or not is_whole(upto):
        raise NoBook("a part lies between two whole numbers")
    rooms, meetings = book
    return made_book(list(rooms), [row for row in meetings if behind < row[2] <= upto])


def turned(book, end):
    # Without meetings every end would make a book, so the end is looked at by itself.
    if not is_whole(end) or end > LAST_TIME:
        raise NoBook("an end is a whole number of at most 10 ** 9")
    rooms, meetings = book
    return made_book(list(rooms), [(one, other, end - when, many) for one, other, when, many in meetings])


def need_meeting(book, meeting):
    if not is_meeting_number(book, meeting):
        raise NoMeeting("no meeting has this number")
