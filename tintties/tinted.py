"""A full tinting of a net by a way."""

from tintties.manifold import Manifold
from tintties.nets import most_of
from tintties.steps import walked


def tinted(net, way=None):
    chosen = Manifold() if way is None else way
    chosen.asked(net)
    many = chosen.needed(most_of(net))
    tints = (None,) * len(net[1])
    for tie in range(len(net[1])):
        tints = walked(net, tints, chosen.put(net, tints, tie, many))[-1]
    return tints
