"""One tinting led into another: ties that get another tint one by one, each as a chain of its own."""

from tintties.errors import TooFew
from tintties.nets import most_of
from tintties.steps import done
from tintties.tintings import free_at_both


def turn_of(net, tints, tie, tint):
    # The tint is free at both ends of the tie: so the chain has no other tie.
    return ("turn", net[1][tie][0], tints[tie], tint)


def ties_in_the_way(net, tints, tie, tint):
    ends = net[1][tie]
    same = [near for near, had in enumerate(tints) if had == tint]
    return [near for near in same if ends[0] in net[1][near] or ends[1] in net[1][near]]


def step_aside(net, tints, tie, many):
    # A tie meets at most two fewer than twice the most: so besides its own tint, one is free at both its ends.
    ends = net[1][tie]
    return turn_of(net, tints, tie, free_at_both(net, tints, ends[0], ends[1], many)[0])


def led(net, one, other, many):
    need = max([2 * most_of(net)] + [tint + 1 for tint in one + other])
    if many < need:
        raise TooFew(need)
    steps = []
    now = one
    for tie, tint in enumerate(other):
        if now[tie] == tint:
            continue
        # At most two, one at each end; none has its last tint already, as that would be this tint in the other, too.
        for near in ties_in_the_way(net, now, tie, tint):
            steps.append(step_aside(net, now, near, many))
            now = done(net, now, steps[-1])
        steps.append(turn_of(net, now, tie, tint))
        now = done(net, now, steps[-1])
    return steps
