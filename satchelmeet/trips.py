"""Trips: deeds done one after another, each of them refused where it can not be done."""

from satchelmeet.books import is_meeting_number, is_walker, other_at
from satchelmeet.errors import HasIt, NoDeed, NoLetter, NoMeeting, NoPass, NoRoom, NotThere, NoWalker
from satchelmeet.wholes import is_below, is_whole, is_within


class Trip:
    """Who has which letter since when, behind all deeds that were done."""

    def __init__(self, book, letters):
        self.book = book
        self.letters = list(letters)
        # For each letter a dict: since when each one has it that has it.
        self.holders = [{sender: since} for sender, since, wish, last in self.letters]
        self.arrivals = [None for letter in self.letters]
        self.passed = [0 for meeting in book[1]]
        self.reached = 0
        self.deeds = []
        for number, (sender, since, wish, last) in enumerate(self.letters):
            self.note_arrival(number, sender, since)

    def do(self, deed):
        if is_passing(deed):
            kind, meeting, letter, giver = deed
            self.need_passing(meeting, letter, giver)
            self.pass_on(meeting, letter, giver)
            if kind == "give":
                del self.holders[letter][giver]
        elif is_drop(deed):
            kind, letter, walker = deed
            self.need_drop(letter, walker)
            del self.holders[letter][walker]
        else:
            raise NoDeed("a deed is a tuple of give, copy or drop and its numbers")
        self.deeds.append(deed)

    def having(self, letter):
        return sorted(self.holders[letter].items())

    def bag(self, walker):
        kept = []
        for letter, holders in enumerate(self.holders):
            if walker in holders and self.takes_room(letter, walker):
                kept.append(letter)
        return kept

    def come(self, letter):
        return self.arrivals[letter]

    def done(self):
        return list(self.deeds)

    def takes_room(self, letter, walker):
        sender, since, wish, last = self.letters[letter]
        return walker not in (sender, wish)

    def need_passing(self, meeting, letter, giver):
        if not is_meeting_number(self.book, meeting) or meeting < self.reached:
            raise NoMeeting("no meeting has this number, or it is over")
        self.need_letter(letter)
        one, two, when, many = self.book[1][meeting]
        if giver not in (one, two):
            raise NoWalker("the giver is not at this meeting")
        if not is_below(self.holders[letter].get(giver), when):
            raise NotThere("the giver has not got this letter ahead of the meeting")
        other = other_at(self.book, meeting, giver)
        if other in self.holders[letter]:
            raise HasIt("the other one has this letter")
        if self.passed[meeting] >= many:
            raise NoPass("no more letters may pass at this meeting")
        if self.takes_room(letter, other) and len(self.bag(other)) >= self.book[0][other]:
            raise NoRoom("the other one's bag is full")

    def need_drop(self, letter, walker):
        self.need_letter(letter)
        if not is_walker(self.book, walker):
            raise NoWalker("no walker has this number")
        if walker not in self.holders[letter]:
            raise NotThere("the walker has not got this letter")

    def need_letter(self, letter):
        if not is_within(letter, 0, len(self.letters) - 1):
            raise NoLetter("no letter has this number")

    def pass_on(self, meeting, letter, giver):
        other = other_at(self.book, meeting, giver)
        when = self.book[1][meeting][2]
        self.holders[letter][other] = when
        self.passed[meeting] += 1
        self.reached = meeting
        self.note_arrival(letter, other, when)

    def note_arrival(self, letter, walker, time):
        sender, since, wish, last = self.letters[letter]
        # Times never fall from deed to deed, so the first one is the least.
        if walker == wish and time <= last and self.arrivals[letter] is None:
            self.arrivals[letter] = time


def is_passing(thing):
    return isinstance(thing, tuple) and len(thing) == 4 and thing[0] in ("give", "copy") and are_wholes(thing[1:])


def is_drop(thing):
    return isinstance(thing, tuple) and len(thing) == 3 and thing[0] == "drop" and are_wholes(thing[1:])


def are_wholes(things):
    return all([is_whole(thing) for thing in things])
