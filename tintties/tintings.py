"""Tintings: a tint, or None, for each tie, and which tints are in use where."""

from tintties.nets import is_below

ALL_TINTS = 1000


def is_tint(thing):
    return is_below(thing, ALL_TINTS)


def is_clean(net, tints):
    taken = {}
    for ends, tint in zip(net[1], tints):
        if tint is not None:
            for point in ends:
                if (point, tint) in taken:
                    return False
                taken[(point, tint)] = True
    return True


def tints_at(net, tints, point):
    # Bare ties come in as None, which no tint is equal to.
    return dict([(tint, True) for ends, tint in zip(net[1], tints) if point in ends])


def free_tints(net, tints, point, many):
    taken = tints_at(net, tints, point)
    return tuple([tint for tint in range(many) if tint not in taken])


def free_at_both(net, tints, one, other, many):
    taken = tints_at(net, tints, other)
    return tuple([tint for tint in free_tints(net, tints, one, many) if tint not in taken])


def counts(tints, many):
    numbers = [0] * many
    for tint in tints:
        if tint is not None and tint < many:
            numbers[tint] += 1
    return tuple(numbers)
