"""Hours in which all meet, in nets of two sides."""

from tintties.errors import NotAlike
from tintties.nets import crowd, most_of
from tintties.sidedway import TwoSided
from tintties.tinted import tinted


def ties_of_tint(tints, tint):
    return tuple([tie for tie, had in enumerate(tints) if had == tint])


def rounds(net):
    TwoSided().asked(net)
    most = most_of(net)
    if not all([crowd(net, point) == most for point in range(net[0])]):
        raise NotAlike()
    # As many tints as ties at each point: so each point has a tie of each tint.
    tints = tinted(net, TwoSided())
    return tuple([ties_of_tint(tints, tint) for tint in range(most)])


def all_meet(net):
    # As many tints as the most: so a point whose crowd is the most has a tie of each tint.
    return ties_of_tint(tinted(net, TwoSided()), 0)
