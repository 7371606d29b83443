"""The way for plain nets: fans of ties at a point, which hand their tints on from one to the next."""

from tintties.chains import turned
from tintties.errors import NotPlain
from tintties.nets import across, ties_at
from tintties.tintings import free_at_both, free_tints
from tintties.ways import Way


def like_pair(net):
    first = {}
    for tie, ends in enumerate(net[1]):
        pair = (min(ends), max(ends))
        if pair in first:
            return (first[pair], tie)
        first[pair] = tie
    return None


def next_in_fan(net, tints, hub, fan, many):
    free = free_tints(net, tints, across(net, fan[-1], hub), many)
    onward = [tie for tie in ties_at(net, hub) if tints[tie] in free and tie not in fan]
    return onward[0] if onward else None


def fan_of(net, tints, hub, tie, many):
    # It ends where a tint is free at both ends of its last tie, or else where no tie at the hub could go on.
    fan = [tie]
    while not free_at_both(net, tints, hub, across(net, fan[-1], hub), many):
        following = next_in_fan(net, tints, hub, fan, many)
        if following is None:
            return fan
        fan.append(following)
    return fan


def handed_on(tints, fan, last_tint):
    # Each tie is bared ahead of the one that takes over its tint, as both meet at the hub.
    steps = []
    for tie, following in zip(fan, fan[1:]):
        steps.append(("bare", following))
        steps.append(("tint", tie, tints[following]))
    steps.append(("tint", fan[-1], last_tint))
    return steps


def turned_and_handed_on(net, tints, hub, fan, many):
    one = free_tints(net, tints, hub, many)[0]
    other = free_tints(net, tints, across(net, fan[-1], hub), many)[0]
    behind = turned(net, tints, hub, one, other)
    # The fan couldn't go on, so it has the hub's tie of the other tint. Ahead of that tie it is a fan behind the turn,
    # too. Where the chain ended at the tip just ahead of it, the other tint isn't free there, but the whole is a fan.
    place = [tints[tie] for tie in fan].index(other)
    tip = across(net, fan[place - 1], hub)
    used = fan[:place] if other in free_tints(net, behind, tip, many) else fan
    return [("turn", hub, one, other)] + handed_on(behind, used, other)


class Plain(Way):
    def needed(self, most):
        return most + 1 if most > 0 else 0

    def asked(self, net):
        pair = like_pair(net)
        if pair is not None:
            raise NotPlain(pair)
        return None

    def made_room(self, net, tints, tie, many):
        hub = net[1][tie][0]
        fan = fan_of(net, tints, hub, tie, many)
        shared = free_at_both(net, tints, hub, across(net, fan[-1], hub), many)
        if shared:
            return handed_on(tints, fan, shared[0])
        return turned_and_handed_on(net, tints, hub, fan, many)
