import itertools
import random
import unittest

from satchelmeet.streams import Stream

HUGE = 10 ** 30


def filled(points, ties):
    stream = Stream(points)
    for here, there, most in ties:
        stream.tie(here, there, most)
    return stream


def least_cut(points, ties, source, goal):
    """The least that bars the goal, over all sets of points with the source and without the goal."""
    others = [point for point in range(points) if point not in (source, goal)]
    cuts = []
    for size in range(len(others) + 1):
        for chosen in itertools.combinations(others, size):
            near = set(chosen) | {source}
            cuts.append(sum(most for here, there, most in ties if here in near and there not in near))
    return min(cuts)


def more_comes(points, ties, sent, source):
    """As the interface tells near, by steps until nothing more is come to."""
    near = [point == source for point in range(points)]
    for step in range(points):
        for (here, there, most), much in zip(ties, sent):
            if near[here] and much < most:
                near[there] = True
            if near[there] and much > 0:
                near[here] = True
    return near


class Streams(unittest.TestCase):
    def looked_at(self, points, ties, source, goal, most):
        stream = filled(points, ties)
        self.assertEqual(stream.send(source, goal), most)
        sent = [stream.sent(tie) for tie in range(len(ties))]
        balance = [0] * points
        for (here, there, bears), much in zip(ties, sent):
            self.assertIs(type(much), int)
            self.assertTrue(0 <= much <= bears)
            balance[here] -= much
            balance[there] += much
        wanted = [0] * points
        wanted[source], wanted[goal] = -most, most
        self.assertEqual(balance, wanted)
        near = stream.near()
        self.assertTrue(all(type(truth) is bool for truth in near))
        self.assertEqual(near, more_comes(points, ties, sent, source))
        self.assertIs(near[source], True)
        self.assertIs(near[goal], False)

    def test_numbers_of_ties(self):
        stream = Stream(3)
        self.assertEqual([stream.tie(0, 1, 4), stream.tie(0, 1, 4), stream.tie(2, 2, 0), stream.tie(1, 2, HUGE)], [0, 1, 2, 3])
        self.assertEqual(Stream(2).tie(1, 0, 3), 0)

    def test_one_tie(self):
        self.looked_at(2, [(0, 1, 5)], 0, 1, 5)
        self.looked_at(2, [(0, 1, 5)], 1, 0, 0)

    def test_no_ties(self):
        stream = Stream(3)
        self.assertEqual(stream.send(2, 0), 0)
        self.assertEqual(stream.near(), [False, False, True])

    def test_a_most_of_0(self):
        self.looked_at(3, [(0, 1, 0), (1, 2, 5)], 0, 2, 0)
        self.looked_at(3, [(0, 1, 5), (1, 2, 0)], 0, 2, 0)

    def test_several_ties_alike(self):
        self.looked_at(2, [(0, 1, 2), (0, 1, 3), (0, 1, 0), (1, 0, 7)], 0, 1, 5)

    def test_a_point_and_itself(self):
        ties = [(0, 0, 9), (0, 1, 4), (1, 1, HUGE), (1, 2, 3), (2, 2, 1)]
        self.looked_at(3, ties, 0, 2, 3)
        stream = filled(3, ties)
        stream.send(0, 2)
        # To a point itself nothing needs to be sent; whatever it is, it is from 0 to most.
        self.assertTrue(0 <= stream.sent(0) <= 9)

    def test_what_was_sent_is_sent_back(self):
        # The way of the fewest ties goes by the middle tie; the most goes past it.
        ties = [(0, 1, 1), (1, 4, 1), (4, 5, 1), (0, 2, 1), (2, 3, 1), (3, 4, 1), (1, 6, 1), (6, 7, 1), (7, 5, 1)]
        self.looked_at(8, ties, 0, 5, 2)

    def test_huge_mosts_and_a_small_tie_across(self):
        # Sent one by one this would never end.
        ties = [(0, 1, HUGE), (0, 2, HUGE), (1, 2, 1), (1, 3, HUGE), (2, 3, HUGE)]
        self.looked_at(4, ties, 0, 3, 2 * HUGE)
        self.looked_at(4, [(0, 1, HUGE + 7), (1, 2, 3 * HUGE), (2, 3, HUGE + 9)], 0, 3, HUGE + 7)

    def test_near_is_the_side_of_the_source(self):
        stream = filled(5, [(0, 1, 5), (1, 2, 3), (2, 3, 9), (4, 0, 1)])
        stream.send(0, 3)
        self.assertEqual(stream.near(), [True, True, False, False, False])

    def test_near_goes_back_by_what_is_sent(self):
        # More comes from 0 to 2, and to 1 by taking back what 1 sends to 2.
        stream = filled(4, [(0, 1, 1), (1, 2, 1), (0, 2, 1), (2, 3, 1)])
        self.assertEqual(stream.send(0, 3), 1)
        sent = [stream.sent(tie) for tie in range(4)]
        self.assertEqual(stream.near(), more_comes(4, [(0, 1, 1), (1, 2, 1), (0, 2, 1), (2, 3, 1)], sent, 0))
        self.assertEqual(stream.near()[:3], [True, True, True])

    def test_told_lists_are_the_askers_own(self):
        stream = filled(3, [(0, 1, 5), (1, 2, 3)])
        stream.send(0, 2)
        told = stream.near()
        told[0] = told[1] = False
        told.append(7)
        self.assertEqual(stream.near(), [True, True, False])
        self.assertEqual([stream.sent(0), stream.sent(1)], [3, 3])

    def test_asked_twice(self):
        stream = filled(3, [(0, 1, 5), (1, 2, 3)])
        stream.send(0, 2)
        self.assertEqual([stream.sent(0), stream.near(), stream.sent(0)], [3, [True, True, False], 3])

    def test_two_by_turns(self):
        one, other = Stream(3), Stream(4)
        self.assertEqual([one.tie(0, 1, 5), other.tie(3, 2, 8), one.tie(1, 2, 4), other.tie(2, 0, 9)], [0, 0, 1, 1])
        self.assertEqual([one.send(0, 2), other.send(3, 0)], [4, 8])
        self.assertEqual([one.sent(0), other.sent(0), one.sent(1), other.sent(1)], [4, 8, 4, 8])
        self.assertEqual([one.near(), other.near()], [[True, True, False], [False, False, False, True]])

    def test_a_row_of_thousands_of_points(self):
        ties = [(point, point + 1, 7 + (point * 31) % 11) for point in range(2999)]
        stream = filled(3000, ties)
        self.assertEqual(stream.send(0, 2999), 7)
        self.assertEqual({stream.sent(tie) for tie in range(2999)}, {7})
        full = [most for here, there, most in ties].index(7)
        self.assertEqual(stream.near(), [point <= full for point in range(3000)])

    def test_a_broad_net_of_a_thousand_points(self):
        chance = random.Random(8)
        ties = []
        for layer in range(40):
            for place, step in itertools.product(range(25), (0, 1, 3)):
                ties.append((layer * 25 + place, (layer + 1) * 25 + (place + step) % 25, chance.randint(0, HUGE)))
        ties += [(1025, place, HUGE) for place in range(25)] + [(1000 + place, 1026, HUGE) for place in range(25)]
        stream = filled(1027, ties)
        most = stream.send(1025, 1026)
        sent = [stream.sent(tie) for tie in range(len(ties))]
        near = stream.near()
        cut = sum(bears for here, there, bears in ties if near[here] and not near[there])
        self.looked_at(1027, ties, 1025, 1026, cut)
        self.assertEqual(most, cut)
        self.assertTrue(all(0 <= much <= bears for much, (here, there, bears) in zip(sent, ties)))

    def test_small_streams(self):
        chance = random.Random(3)
        for trial in range(400):
            points = chance.randint(2, 6)
            ties = []
            for tie in range(chance.randint(0, 14)):
                most = chance.choice([0, 1, 2, 3, 5, 9, HUGE])
                ties.append((chance.randrange(points), chance.randrange(points), most))
            source, goal = chance.sample(range(points), 2)
            self.looked_at(points, ties, source, goal, least_cut(points, ties, source, goal))


if __name__ == "__main__":
    unittest.main()
