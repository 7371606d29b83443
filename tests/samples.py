"""Nets that several tests ask about: the same ones each time, drawn by a seed."""

from itertools import combinations
from random import Random


def complete(points):
    return (points, tuple(combinations(range(points), 2)))


def ring(points):
    return (points, tuple((point, (point + 1) % points) for point in range(points)))


def drawn(points, ties, seed):
    """Several ties may be between the same two points, either point first."""
    source = Random(seed)
    return (points, tuple(tuple(source.sample(range(points), 2)) for tie in range(ties)))


def drawn_plain(points, ties, seed):
    source = Random(seed)
    pairs = source.sample(list(combinations(range(points), 2)), ties)
    return (points, tuple(tuple(source.sample(pair, 2)) for pair in pairs))


def drawn_two_sided(points, ties, seed):
    source = Random(seed)
    shuffled = source.sample(range(points), points)
    half = points // 2
    pairs = [(source.choice(shuffled[:half]), source.choice(shuffled[half:])) for tie in range(ties)]
    return (points, tuple(tuple(source.sample(pair, 2)) for pair in pairs))


def renamed(net, seed):
    """The same net with its points called otherwise and its ties in another order and turned."""
    source = Random(seed)
    names = source.sample(range(net[0]), net[0])
    ties = source.sample(net[1], len(net[1]))
    return (net[0], tuple(tuple(source.sample((names[one], names[other]), 2)) for one, other in ties))


def nets():
    """Ordinary nets and the edges of the document, without the great ones."""
    found = [
        (0, ()),
        (1, ()),
        (2, ()),
        (60, ()),
        (2, ((0, 1),)),
        (2, ((1, 0),)),
        (2, ((0, 1), (1, 0), (0, 1))),
        (2, tuple((tie % 2, 1 - tie % 2) for tie in range(200))),
        (3, ((0, 1), (1, 2), (2, 0))),
        (4, ((3, 1),)),
        (4, ((0, 1), (2, 3), (1, 0))),
        (60, ((0, 59), (59, 0), (30, 59))),
        complete(5),
        complete(20),
        ring(60),
        ring(59),
    ]
    for seed in range(30):
        points = 2 + seed % 9
        found.append(drawn(points, seed, seed))
        found.append(drawn_plain(points, min(seed, points * (points - 1) // 2), seed))
        found.append(drawn_two_sided(points, seed, seed))
    return found


def great_nets():
    return [drawn(60, 200, 1), drawn_plain(60, 200, 2), drawn_two_sided(60, 200, 3)]


def nets_beyond():
    """Somewhat beyond the bounds of a net: no net, but nothing is refused for it."""
    return [drawn(70, 230, 4), drawn_two_sided(70, 230, 5), ring(71)]
