"""A bound from below on how many tints a net of few points takes, and the paper that shows it."""

from tintties.errors import TooGreat
from tintties.nets import crowd, most_of

MOST_BOUND_POINTS = 9


def bar(net, part):
    inside = len([ends for ends in net[1] if ends[0] in part and ends[1] in part])
    at_once = (len(part) - 1) // 2
    return (inside + at_once - 1) // at_once


def parts_of(net):
    rows = [()]
    for point in range(net[0]):
        rows = rows + [row + (point,) for row in rows]
    return [row for row in rows if len(row) >= 3 and len(row) % 2 == 1]


def first_crowded(net, most):
    return [point for point in range(net[0]) if crowd(net, point) == most][0]


def bound(net):
    if net[0] > MOST_BOUND_POINTS:
        raise TooGreat(MOST_BOUND_POINTS)
    most = most_of(net)
    if most == 0:
        return (0, None)
    number = most
    paper = ("point", first_crowded(net, most))
    for part in parts_of(net):
        barred = bar(net, part)
        if barred > number:
            number = barred
            paper = ("part", part)
    return (number, paper)
