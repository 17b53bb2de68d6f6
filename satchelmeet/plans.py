"""Plans: how many alike letters pass where, what they are begun with and what they come to."""

from satchelmeet.wholes import are_counts, is_count, is_within


def plan_worth(book, loads, wants, thing):
    if not has_plan_form(book, loads, wants, thing):
        return None
    rows, straight = thing
    if not may_be_straight(loads, wants, straight) or not are_rows_kept(book, loads, wants, rows):
        return None
    left = totals(len(loads), [row[2] for row in rows], [(load, many) for load, want, many in straight])
    came = totals(len(wants), [row[3] for row in rows], [(want, many) for load, want, many in straight])
    if not are_upto_manys(left, loads) or not are_upto_manys(came, wants):
        return None
    return sum(came)


def has_plan_form(book, loads, wants, thing):
    if not isinstance(thing, tuple) or len(thing) != 2:
        return False
    rows, straight = thing
    if not isinstance(rows, list) or len(rows) != len(book[1]) or not isinstance(straight, list):
        return False
    if not all([has_row_form(loads, wants, row) for row in rows]):
        return False
    return all([has_straight_form(loads, wants, part) for part in straight])


def has_row_form(loads, wants, thing):
    if not isinstance(thing, tuple) or len(thing) != 4:
        return False
    there, back, begun, come = thing
    if not is_count(there) or not is_count(back):
        return False
    return are_counts(begun, len(loads)) and are_counts(come, len(wants))


def has_straight_form(loads, wants, thing):
    if not isinstance(thing, tuple) or len(thing) != 3:
        return False
    load, want, many = thing
    if not is_within(load, 0, len(loads) - 1) or not is_within(want, 0, len(wants) - 1):
        return False
    return is_count(many) and many > 0


def may_be_straight(loads, wants, straight):
    pairs = [(load, want) for load, want, many in straight]
    if len(set(pairs)) != len(pairs):
        return False
    return all([is_straight(loads[load], wants[want]) for load, want in pairs])


def is_straight(load, want):
    """Whether letters of a load may come to a want at once."""
    return load[0] == want[0] and load[1] <= want[1]


def are_rows_kept(book, loads, wants, rows):
    bags = [0 for room in book[0]]
    for meeting, row in zip(book[1], rows):
        if not is_within_meeting(meeting, loads, wants, row):
            return False
        bags = bags_behind(bags, meeting, loads, wants, row)
        if bags is None or not all([bag <= room for bag, room in zip(bags, book[0])]):
            return False
    return True


def is_within_meeting(meeting, loads, wants, row):
    one, other, when, many = meeting
    there, back, begun, come = row
    for (walker, since, most), number in zip(loads, begun):
        if number > 0 and (walker not in (one, other) or since >= when):
            return False
    for (walker, last, most), number in zip(wants, come):
        if number > 0 and (walker not in (one, other) or last < when):
            return False
    return there + back <= many


def bags_behind(bags, meeting, loads, wants, row):
    """What is in the bags behind a meeting; None where a walker gives or keeps what it has not got."""
    one, other, when, many = meeting
    there, back, begun, come = row
    behind = list(bags)
    for walker, given, taken in ((one, there, back), (other, back, there)):
        out = given - of_walker(loads, begun, walker)
        into = taken - of_walker(wants, come, walker)
        if not 0 <= out <= bags[walker] or into < 0:
            return None
        behind[walker] += into - out
    return behind


def of_walker(parts, numbers, walker):
    """Of numbers, one for each load or want, those of one walker together."""
    return sum([number for part, number in zip(parts, numbers) if part[0] == walker])


def totals(size, rows, straight):
    """For each load or want all that the rows and the straight ones have of it."""
    sums = [sum([row[place] for row in rows]) for place in range(size)]
    for place, many in straight:
        sums[place] += many
    return sums


def are_upto_manys(sums, parts):
    return all([total <= part[2] for total, part in zip(sums, parts)])
