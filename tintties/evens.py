"""Tints evened out: chains turned until no tint is on two ties more than another."""

from tintties.chains import chain
from tintties.errors import TooFew
from tintties.steps import done
from tintties.tintings import counts


def point_of_surplus(net, tints, one, other):
    # Where one tint is on more ties than the other, some chain of both has more of it, too.
    for point in range(net[0]):
        row = [tints[tie] for tie in chain(net, tints, point, one, other)]
        if row.count(one) > row.count(other):
            return point
    return None


def evening_step(net, tints, many):
    # From the fullest tint to the emptiest one: so each turn takes away one tie too many.
    numbers = counts(tints, many)
    fullest = max(numbers, default=0)
    emptiest = min(numbers, default=0)
    if fullest - emptiest < 2:
        return None
    one = numbers.index(fullest)
    other = numbers.index(emptiest)
    return ("turn", point_of_surplus(net, tints, one, other), one, other)


def evened(net, tints, many):
    need = max([tint + 1 for tint in tints if tint is not None], default=0)
    if many < need:
        raise TooFew(need)
    steps = []
    now = tints
    step = evening_step(net, now, many)
    while step is not None:
        steps.append(step)
        now = done(net, now, step)
        step = evening_step(net, now, many)
    return steps
