"""Nets: points tied in pairs, what is at a point, and what is between two."""

MOST_POINTS = 60
MOST_TIES = 200


def is_number(thing):
    # Python counts True and False as whole numbers; here they are none.
    return isinstance(thing, int) and not isinstance(thing, bool)


def is_pair(thing):
    return isinstance(thing, tuple) and len(thing) == 2


def is_below(thing, bound):
    return is_number(thing) and 0 <= thing < bound


def is_tie(thing, points):
    if not is_pair(thing):
        return False
    return is_below(thing[0], points) and is_below(thing[1], points) and thing[0] != thing[1]


def is_net(thing):
    if not is_pair(thing):
        return False
    points = thing[0]
    ties = thing[1]
    if not is_number(points) or not 0 <= points <= MOST_POINTS:
        return False
    if not isinstance(ties, tuple) or len(ties) > MOST_TIES:
        return False
    return all([is_tie(tie, points) for tie in ties])


def ties_at(net, point):
    return tuple([tie for tie, ends in enumerate(net[1]) if point in ends])


def between(net, one, other):
    return tuple([tie for tie, ends in enumerate(net[1]) if ends == (one, other) or ends == (other, one)])


def across(net, tie, point):
    ends = net[1][tie]
    return ends[1] if ends[0] == point else ends[0]


def crowd(net, point):
    return len(ties_at(net, point))


def most_of(net):
    # Counted in one walk over the ties, as a crowd for each point would walk them once a point.
    crowds = [0] * net[0]
    for ends in net[1]:
        for point in ends:
            crowds[point] += 1
    return max(crowds, default=0)


def is_plain(net):
    # Each tie the lower point first, as (0, 1) and (1, 0) are between the same two.
    return len(set([(min(ends), max(ends)) for ends in net[1]])) == len(net[1])
