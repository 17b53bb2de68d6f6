"""Nets: what alike letters can do in a book, as the points and ties of a stream."""

from satchelmeet.books import by_time, ways
from satchelmeet.plans import is_straight
from satchelmeet.streams import Stream

SOURCE = 0
GOAL = 1


class Net:
    """Each walker has two points for each stretch: what comes into its bag, and what it can give or keep."""

    def __init__(self, book, loads, wants):
        self.book = book
        self.loads = loads
        self.wants = wants
        # More than can ever be sent, so that such a tie is never full.
        self.plenty = sum([many for walker, since, many in loads]) + 1
        # The givings first, two for each meeting, then the keepings: so the numbers of these ties are known.
        self.ties = self.givings() + self.keepings() + self.fillings() + self.beginnings() + self.comings()
        points = self.into(len(book[1]) + 1, 0)
        self.ties_from = [[] for point in range(points)]
        self.stream = Stream(points)
        for here, there, most in self.ties:
            self.ties_from[here].append(self.stream.tie(here, there, most))
        self.stream.send(SOURCE, GOAL)

    def load_point(self, load):
        return 2 + load

    def want_point(self, want):
        return 2 + len(self.loads) + want

    def into(self, stretch, walker):
        return self.want_point(len(self.wants)) + 2 * (stretch * len(self.book[0]) + walker)

    def out(self, stretch, walker):
        return self.into(stretch, walker) + 1

    def keeping(self, number, walker):
        """The tie by which a walker keeps letters over a meeting."""
        return 2 * len(self.book[1]) + number * len(self.book[0]) + walker

    def load_and_want(self, way):
        """Of a row of ties from the source to the goal, the numbers of its load and its want."""
        return (self.ties[way[0]][1] - self.load_point(0), self.ties[way[-1]][0] - self.want_point(0))

    def givings(self):
        told = []
        for number, giver, other, when in ways(self.book):
            told.append((self.out(number, giver), self.into(number + 1, other), self.book[1][number][3]))
        return told

    def keepings(self):
        told = []
        for stretch in range(len(self.book[1])):
            for walker in range(len(self.book[0])):
                told.append((self.out(stretch, walker), self.into(stretch + 1, walker), self.plenty))
        return told

    def fillings(self):
        """Through the bags, which have their rooms on each stretch."""
        told = []
        for stretch in range(len(self.book[1]) + 1):
            for walker, room in enumerate(self.book[0]):
                told.append((self.into(stretch, walker), self.out(stretch, walker), room))
        return told

    def beginnings(self):
        """From the source to each load, and on from there past the bag of its walker, or to a want at once."""
        told = []
        for number, load in enumerate(self.loads):
            walker, since, many = load
            here = self.load_point(number)
            told.append((SOURCE, here, many))
            for stretch in range(by_time(self.book, since), len(self.book[1]) + 1):
                told.append((here, self.out(stretch, walker), self.plenty))
            for place, want in enumerate(self.wants):
                if is_straight(load, want):
                    told.append((here, self.want_point(place), self.plenty))
        return told

    def comings(self):
        """To each want, from behind each meeting by its last, and on from there to the goal."""
        told = []
        for number, (walker, last, many) in enumerate(self.wants):
            there = self.want_point(number)
            for stretch in range(1, by_time(self.book, last) + 1):
                told.append((self.into(stretch, walker), there, self.plenty))
            told.append((there, GOAL, many))
        return told
