"""A full tinting of a net by a way."""

from tintties.manifold import way_or_manifold
from tintties.nets import most_of
from tintties.steps import behind


def tinted(net, way=None):
    chosen = way_or_manifold(way)
    chosen.asked(net)
    many = chosen.needed(most_of(net))
    tints = (None,) * len(net[1])
    for tie in range(len(net[1])):
        tints = behind(net, tints, chosen.put(net, tints, tie, many))
    return tints
