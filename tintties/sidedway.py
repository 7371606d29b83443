"""The way for nets of two sides: it needs no more tints than the most ties at a point."""

from tintties.errors import NotTwoSided
from tintties.sides import sides
from tintties.tintings import free_tints
from tintties.ways import Way


class TwoSided(Way):
    def needed(self, most):
        return most

    def asked(self, net):
        told = sides(net)
        if told[0] == "ring":
            raise NotTwoSided(told[1])
        return None

    def made_room(self, net, tints, tie, many):
        ends = net[1][tie]
        one = free_tints(net, tints, ends[0], many)[0]
        other = free_tints(net, tints, ends[1], many)[0]
        # The chain comes to the first end's side by ties of the tint that is free there, so never to the first end.
        return [("turn", ends[1], one, other), ("tint", tie, one)]
