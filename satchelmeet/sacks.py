"""Sacks: the most alike letters that small bags can carry, with a plan and a cut that show it."""

from satchelmeet.nets import GOAL, SOURCE, Net


def carried(book, loads, wants):
    net = Net(book, loads, wants)
    return (plan_of(net), cut_of(net))


def plan_of(net):
    meetings = net.book[1]
    passed = [[0, 0] for meeting in meetings]
    begun = [[0 for load in net.loads] for meeting in meetings]
    come = [[0 for want in net.wants] for meeting in meetings]
    straight = {}
    for way, many in ways_sent(net):
        load, want = net.load_and_want(way)
        givings = [divmod(tie, 2) for tie in way if tie < 2 * len(meetings)]
        for number, place in givings:
            passed[number][place] += many
        if givings:
            begun[givings[0][0]][load] += many
            come[givings[-1][0]][want] += many
        else:
            straight[(load, want)] = straight.get((load, want), 0) + many
    rows = [(passed[number][0], passed[number][1], begun[number], come[number]) for number in range(len(meetings))]
    return (rows, [(load, want, many) for (load, want), many in straight.items()])


def ways_sent(net):
    """All that is sent, as tuples (way, many): a way is a list of ties from the source to the goal."""
    much = one_way_sent(net)
    told = []
    way = way_left(net, much)
    while way:
        many = min([much[tie] for tie in way])
        for tie in way:
            much[tie] -= many
        told.append((way, many))
        way = way_left(net, much)
    return told


def one_way_sent(net):
    """How much goes by each tie; where letters would pass both ways, each walker keeps as many of its own instead."""
    much = [net.stream.sent(tie) for tie in range(len(net.ties))]
    for number, (one, other, when, many) in enumerate(net.book[1]):
        both = min(much[2 * number], much[2 * number + 1])
        much[2 * number] -= both
        much[2 * number + 1] -= both
        much[net.keeping(number, one)] += both
        much[net.keeping(number, other)] += both
    return much


def way_left(net, much):
    """A way of ties by each of which something goes; [] where nothing is left."""
    way = []
    point = SOURCE
    while point != GOAL:
        going = [tie for tie in net.ties_from[point] if much[tie] > 0]
        if not going:
            return []
        way.append(going[0])
        point = net.ties[going[0]][1]
    return way


def cut_of(net):
    """What more could come to is on one side of the cut, all else on the other."""
    near = net.stream.near()
    begun = [near[net.load_point(load)] for load in range(len(net.loads))]
    come = [near[net.want_point(want)] for want in range(len(net.wants))]
    marks = []
    for stretch in range(len(net.book[1]) + 1):
        marks.append([mark_of(net, near, stretch, walker) for walker in range(len(net.book[0]))])
    return (begun, come, marks)


def mark_of(net, near, stretch, walker):
    mark = 1 if near[net.into(stretch, walker)] else 0
    return mark + 2 if near[net.out(stretch, walker)] else mark
