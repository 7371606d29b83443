"""A way to put ties in: how many tints it needs, which nets it refuses, and the steps that tint a bare tie."""

from tintties.errors import NoTie, TooFew
from tintties.nets import is_below, most_of
from tintties.tintings import free_at_both


class Way:
    def needed(self, most):
        return max(2 * most - 1, 0)

    def asked(self, net):
        return None

    def put(self, net, tints, tie, many):
        if not is_below(tie, len(net[1])) or tints[tie] is not None:
            raise NoTie()
        self.asked(net)
        need = self.needed(most_of(net))
        if many < need:
            raise TooFew(need)
        ends = net[1][tie]
        shared = free_at_both(net, tints, ends[0], ends[1], many)
        if shared:
            return [("tint", tie, shared[0])]
        return self.made_room(net, tints, tie, many)

    def made_room(self, net, tints, tie, many):
        # With as many tints as Way needs there is always one free at both ends, so put never comes here by a Way.
        return []
