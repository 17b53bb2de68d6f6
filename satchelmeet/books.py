"""Books: who walks, with how large a bag, and who meets whom, when."""

from satchelmeet.errors import NoBook
from satchelmeet.wholes import LAST_TIME, is_whole, is_within

MOST_WALKERS = 12
MOST_ROOM = 99
MOST_MEETINGS = 60
MOST_MANY = 99


def made_book(rooms, meetings):
    if not are_rooms(rooms):
        raise NoBook("rooms are a list of one to twelve whole numbers from 0 to 99")
    if not isinstance(meetings, list) or len(meetings) > MOST_MEETINGS:
        raise NoBook("meetings are a list of at most sixty")
    for meeting in meetings:
        if not is_meeting(len(rooms), meeting):
            raise NoBook("a meeting is a tuple of two unlike walkers, a when and a many")
    if meets_twice_at_once(meetings):
        raise NoBook("nobody has two meetings at one time")
    told = [lesser_first(meeting) for meeting in meetings]
    return (tuple(rooms), tuple(sorted(told, key=lambda row: (row[2], row[0]))))


def are_rooms(thing):
    if not isinstance(thing, list) or not 1 <= len(thing) <= MOST_WALKERS:
        return False
    return all([is_within(room, 0, MOST_ROOM) for room in thing])


def is_meeting(walkers, thing):
    if not isinstance(thing, tuple) or len(thing) != 4:
        return False
    one, other, when, many = thing
    if not is_within(one, 0, walkers - 1) or not is_within(other, 0, walkers - 1):
        return False
    return one != other and is_within(when, 1, LAST_TIME) and is_within(many, 1, MOST_MANY)


def meets_twice_at_once(meetings):
    seen = set()
    for one, other, when, many in meetings:
        if (one, when) in seen or (other, when) in seen:
            return True
        seen.add((one, when))
        seen.add((other, when))
    return False


def lesser_first(meeting):
    one, other, when, many = meeting
    return (min(one, other), max(one, other), when, many)


def is_book(thing):
    """Whether it is a book as it is told."""
    if not isinstance(thing, tuple) or len(thing) != 2:
        return False
    rooms, meetings = thing
    if not isinstance(rooms, tuple) or not isinstance(meetings, tuple):
        return False
    try:
        return made_book(list(rooms), list(meetings)) == thing
    except NoBook:
        return False


def is_meeting_number(book, thing):
    return is_within(thing, 0, len(book[1]) - 1)


def is_walker(book, thing):
    return is_within(thing, 0, len(book[0]) - 1)


def meetings_of(book, walker):
    return [number for number, meeting in enumerate(book[1]) if walker in meeting[:2]]


def by_time(book, time):
    return len([meeting for meeting in book[1] if meeting[2] <= time])


def ways(book):
    """Each meeting twice, as (number, giver, other, when), in the order of the meetings."""
    told = []
    for number, (one, other, when, many) in enumerate(book[1]):
        told.append((number, one, other, when))
        told.append((number, other, one, when))
    return told


def other_at(book, number, walker):
    one, other, when, many = book[1][number]
    return other if walker == one else one


def lone_row(book, walker, number):
    """A row with a number for one walker and None for all others."""
    return [number if other == walker else None for other in range(len(book[0]))]


def is_row(book, thing):
    """Whether it is a list with a whole number or None for each walker."""
    if not isinstance(thing, list) or len(thing) != len(book[0]):
        return False
    return all([number is None or is_whole(number) for number in thing])
