"""Chains of two tints: the ties of these two that hang together from a point, and how they are turned over."""

from tintties.nets import across


def two_tinted(net, tints, one, other):
    found = {}
    for tie, tint in enumerate(tints):
        if tint == one or tint == other:
            for point in net[1][tie]:
                found.setdefault(point, []).append(tie)
    return found


def chain(net, tints, point, one, other):
    ties = two_tinted(net, tints, one, other)
    found = {}
    waiting = [point]
    while waiting:
        here = waiting.pop()
        for tie in ties.get(here, []):
            if tie not in found:
                found[tie] = True
                waiting.append(across(net, tie, here))
    return tuple(sorted(found))


def chain_ends(net, tints, point, one, other):
    times = {}
    for tie in chain(net, tints, point, one, other):
        for end in net[1][tie]:
            times[end] = times.get(end, 0) + 1
    return tuple([end for end in sorted(times) if times[end] == 1])


def turned(net, tints, point, one, other):
    row = list(tints)
    for tie in chain(net, tints, point, one, other):
        row[tie] = other if tints[tie] == one else one
    return tuple(row)
