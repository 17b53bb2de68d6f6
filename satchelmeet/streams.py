"""Streams: as much as can be sent from one point to another, by ties that bear only so much each."""


class Stream:
    """Points from 0 on; each tie has two arcs: arc 2 * tie leads there, the next one back what was sent."""

    def __init__(self, many):
        self.source = 0
        self.arcs = [[] for point in range(many)]
        self.ends = []
        self.spare = []

    def tie(self, here, there, most):
        number = len(self.ends) // 2
        self.arcs[here].append(2 * number)
        self.arcs[there].append(2 * number + 1)
        self.ends += [there, here]
        self.spare += [most, 0]
        return number

    def send(self, source, goal):
        self.source = source
        total = 0
        came = self.came_to(goal)
        while goal in came:
            total += self.sent_along(came, goal)
            came = self.came_to(goal)
        return total

    def sent(self, tie):
        return self.spare[2 * tie + 1]

    def near(self):
        came = self.came_to(None)
        return [point in came for point in range(len(self.arcs))]

    def came_to(self, goal):
        """For each point that more can come to, the arc by which it does; no further than to the goal."""
        came = {self.source: None}
        points = [self.source]
        place = 0
        # The points come to first are left first, so each way has as few arcs as any: else there could be far
        # too many steps.
        while place < len(points) and goal not in came:
            point = points[place]
            place += 1
            for arc in self.arcs[point]:
                end = self.ends[arc]
                if self.spare[arc] > 0 and end not in came:
                    came[end] = arc
                    points.append(end)
        return came

    def sent_along(self, came, goal):
        """Sends all that the way to the goal bears, and tells how much."""
        way = []
        point = goal
        while point != self.source:
            arc = came[point]
            way.append(arc)
            point = self.ends[arc ^ 1]
        most = min([self.spare[arc] for arc in way])
        for arc in way:
            self.spare[arc] -= most
            self.spare[arc ^ 1] += most
        return most
