"""The way for any net: it needs the most ties at a point and half as many again."""

from tintties.chains import chain_ends
from tintties.nets import across, ties_at
from tintties.tintings import free_at_both, free_tints
from tintties.ways import Way


def handed_over(tie, giver, given, new):
    # The giver is bared first, as it meets the tie that takes over its tint.
    return [("bare", giver), ("tint", tie, given), ("tint", giver, new)]


def room_by_a_third(net, tints, tie, many):
    one = net[1][tie][0]
    other = net[1][tie][1]
    given = free_tints(net, tints, other, many)[0]
    giver = [near for near in ties_at(net, one) if tints[near] == given][0]
    third = across(net, giver, one)
    shared = free_at_both(net, tints, one, third, many)
    if shared:
        return handed_over(tie, giver, given, shared[0])
    # More tints than there are would be free at the three points, were none free at two of them: so one is, here.
    near_tint = free_tints(net, tints, one, many)[0]
    far_tint = free_at_both(net, tints, other, third, many)[0]
    # Each of the three points is an end of a chain of these two tints, so one of them isn't on a chain with the first.
    if other not in chain_ends(net, tints, one, near_tint, far_tint):
        return [("turn", one, near_tint, far_tint), ("tint", tie, far_tint)]
    return [("turn", third, near_tint, far_tint)] + handed_over(tie, giver, given, near_tint)


class Manifold(Way):
    def needed(self, most):
        return 3 * most // 2

    def made_room(self, net, tints, tie, many):
        return room_by_a_third(net, tints, tie, many)


def way_or_manifold(way):
    return Manifold() if way is None else way
