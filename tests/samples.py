"""Nets and tintings that several tests ask about, drawn by a seed, and what the document says of them, told anew."""

import unittest
from collections import Counter
from decimal import Decimal
from fractions import Fraction
from itertools import combinations
from random import Random

from tintties.errors import (
    NoMeeting, NoName, NoStep, NoText, NotAlike, NotClean, NoTie, NotPlain, NotTwoSided, TintError, TooFew, TooGreat,
)
from tintties.fans import Plain
from tintties.manifold import Manifold
from tintties.sidedway import TwoSided
from tintties.ways import Way

REFUSALS = (
    NoMeeting, NoName, NoStep, NoText, NotAlike, NotClean, NoTie, NotPlain, NotTwoSided, TooFew, TooGreat,
)

WAYS = (Way, TwoSided, Plain, Manifold)


class LikeAll:
    """Equal to every thing, and below and above each."""

    def __eq__(self, other):
        return True

    def __ne__(self, other):
        return False

    def __hash__(self):
        return 0

    def __lt__(self, other):
        return True

    __le__ = __gt__ = __ge__ = __lt__

    def __index__(self):
        return 0


NO_NAMES = (
    "", "A", "aA", "Anna", "ninelette", "ab c", "a b", " a", "a ", "a\n", "\na", "\n", " ", "\t", "a\t", "a1", "1", "0", "a_",
    "a-b", "a.", "\u00e4", "\u00df", "\u0131", "\u00aa", "\u03b1", "\u0430", "a\u0301", "\ufb01", "\uff41", "a\u00a0",
    "a\u200b", "\u2028", "a\x00", "\x00", "{", "`", "a{", "a`", "z" * 9, "z" * 100, b"a", b"", bytearray(b"a"),
    ("a",), ["a"], {"a": "a"}, {"a"}, ("a", "b"), (), [], {},
)

NO_NUMBERS = (
    None, True, False, 0.0, 1.0, 0j, Fraction(0), Fraction(1, 2), Decimal(0), Decimal(1), "", "0", "1", "a", b"", b"0",
    (), (0,), (0, 1), [], [0], {}, {0: 0}, set(), {0}, frozenset((0,)), range(1), object(), int, len, iter(()),
    ValueError(), float("nan"), float("inf"), LikeAll(),
)


def complete(points):
    return (points, tuple(combinations(range(points), 2)))


def ring(points):
    return (points, tuple((point, (point + 1) % points) for point in range(points)))


def drawn(points, ties, seed):
    """Several ties may be between the same two points, either point first."""
    source = Random(seed)
    return (points, tuple(tuple(source.sample(range(points), 2)) for tie in range(ties)))


def drawn_plain(points, ties, seed):
    source = Random(seed)
    pairs = source.sample(list(combinations(range(points), 2)), ties)
    return (points, tuple(tuple(source.sample(pair, 2)) for pair in pairs))


def drawn_two_sided(points, ties, seed):
    source = Random(seed)
    shuffled = source.sample(range(points), points)
    half = points // 2
    pairs = [(source.choice(shuffled[:half]), source.choice(shuffled[half:])) for tie in range(ties)]
    return (points, tuple(tuple(source.sample(pair, 2)) for pair in pairs))


def drawn_even(points, crowd, seed):
    """Nearly each point has just this crowd: several ties may be between the same two points."""
    source = Random(seed)
    ends = source.sample([point for point in range(points) for time in range(crowd)], points * crowd)
    return (points, tuple((one, other) for one, other in zip(ends[::2], ends[1::2]) if one != other))


def drawn_even_two_sided(half, crowd, seed):
    """Each point has just this crowd."""
    source = Random(seed)
    left = source.sample(list(range(half)) * crowd, half * crowd)
    return (2 * half, tuple((one, half + place % half) for place, one in enumerate(left)))


def renamed(net, seed):
    """The same net with its points called otherwise and its ties in another order and turned."""
    source = Random(seed)
    names = source.sample(range(net[0]), net[0])
    ties = source.sample(net[1], len(net[1]))
    return (net[0], tuple(tuple(source.sample((names[one], names[other]), 2)) for one, other in ties))


def nets():
    """Ordinary nets and the edges of the document, without the great ones."""
    found = [
        (0, ()),
        (1, ()),
        (2, ()),
        (60, ()),
        (2, ((0, 1),)),
        (2, ((1, 0),)),
        (2, ((0, 1), (1, 0), (0, 1))),
        (2, tuple((tie % 2, 1 - tie % 2) for tie in range(200))),
        (3, ((0, 1), (1, 2), (2, 0))),
        (4, ((3, 1),)),
        (4, ((0, 1), (2, 3), (1, 0))),
        (60, ((0, 59), (59, 0), (30, 59))),
        complete(5),
        complete(20),
        ring(60),
        ring(59),
    ]
    for seed in range(30):
        points = 2 + seed % 9
        found.append(drawn(points, seed, seed))
        found.append(drawn_plain(points, min(seed, points * (points - 1) // 2), seed))
        found.append(drawn_two_sided(points, seed, seed))
    return found


def great_nets():
    return [drawn(60, 200, 1), drawn_plain(60, 200, 2), drawn_two_sided(60, 200, 3)]


def nets_beyond():
    """Somewhat beyond the bounds of a net: no net, but nothing is refused for it."""
    return [drawn(70, 230, 4), drawn_two_sided(70, 230, 5), ring(71)]


def complete_two_sided(one, other):
    return (one + other, tuple((left, one + right) for left in range(one) for right in range(other)))


def several(net, times):
    """Each tie so many times, turned about by turns."""
    return (net[0], tuple(ends[::-1] if time % 2 else ends for time in range(times) for ends in net[1]))


def star(points):
    return (points, tuple((0, point) if point % 2 else (point, 0) for point in range(1, points)))


def line(points):
    return (points, tuple((point, point + 1) for point in range(points - 1)))


def has_two_sides(net):
    """By going over all ties until no point is added; a point and its twin on the other side never hang together."""
    groups = {(point, side): {(point, side)} for point in range(net[0]) for side in (0, 1)}
    for one, other in net[1]:
        for side in (0, 1):
            joined = groups[one, side] | groups[other, 1 - side]
            for member in joined:
                groups[member] = joined
    return not any((point, 1) in groups[point, 0] for point in range(net[0]))


def is_plain_by_hand(net):
    return len({frozenset(ends) for ends in net[1]}) == len(net[1])


def two_sided_nets():
    found = [net for net in nets() if has_two_sides(net)]
    found += [complete_two_sided(one, other) for one in range(1, 7) for other in (1, 3, 6)]
    found += [renamed(several(complete_two_sided(3, 4), times), times) for times in (2, 5, 16)]
    found += [several(ring(4), 7), several(ring(6), 3), renamed(ring(20), 1), line(12), several(line(5), 4), star(15)]
    found += [several((2, ((0, 1),)), times) for times in (1, 2, 30)]
    found += [(9, ((0, 1), (1, 0), (3, 4), (4, 5), (5, 6), (6, 3), (3, 4)))]
    return found


def great_two_sided_nets():
    return [
        complete_two_sided(14, 14), renamed(complete_two_sided(10, 20), 3), drawn_two_sided(60, 200, 3),
        several(complete_two_sided(5, 5), 8), renamed(several(ring(40), 5), 2), several((2, ((1, 0),)), 200),
        drawn_two_sided(70, 230, 5),
    ]


def odd_nets():
    found = [net for net in nets() + great_nets() + nets_beyond() if not has_two_sides(net)]
    return found + [ring(3), ring(5), ring(59), several(ring(7), 3), complete(4), renamed(complete(9), 1)]


def plain_nets():
    found = [net for net in nets() if is_plain_by_hand(net)]
    found += [complete(points) for points in range(2, 10)]
    found += [renamed(complete(points), points) for points in (4, 5, 6, 7, 11)]
    found += [ring(3), ring(4), ring(7), ring(31), star(12), line(9), complete_two_sided(4, 5)]
    found += [drawn_plain(9, ties, ties) for ties in range(18, 36, 3)]
    return found


def great_plain_nets():
    return [
        complete(20), renamed(complete(19), 1), complete_two_sided(14, 14), drawn_plain(60, 200, 2), drawn_plain(25, 200, 3),
        drawn_plain(70, 230, 4),
    ]


def doubled_nets():
    found = [net for net in nets() + great_nets() + nets_beyond() if not is_plain_by_hand(net)]
    found += [(2, ((0, 1), (1, 0))), (2, ((0, 1), (0, 1))), several(ring(5), 2), several(complete(6), 3)]
    for place in (0, 7, 14):
        ties = complete(6)[1]
        found.append((6, ties + (ties[place],)))
        found.append((6, (ties[place][::-1],) + ties))
    return found


def fat_nets():
    """Few points with many ties between the same two."""
    found = [several(ring(3), times) for times in range(1, 12)]
    found += [renamed(several(ring(5), times), times) for times in (1, 2, 3, 8)]
    found += [several(star(5), times) for times in (1, 4)] + [several((2, ((0, 1),)), times) for times in (1, 2, 3, 40)]
    found += [drawn(points, ties, seed) for seed, (points, ties) in enumerate(
        (points, ties) for points in (3, 4, 5) for ties in (4, 7, 10, 15, 25, 40)
    )]
    found += [(3, ((0, 1),) * one + ((1, 2),) * two + ((2, 0),) * three)
              for one, two, three in ((3, 3, 2), (3, 2, 2), (5, 4, 4), (4, 4, 5), (1, 6, 6), (7, 1, 2))]
    found += [several(complete(4), 5), several(line(6), 4), several(complete_two_sided(2, 3), 4)]
    return found


def great_fat_nets():
    return [
        several(ring(3), 66), several(ring(5), 40), several((2, ((0, 1),)), 200), drawn(6, 200, 1), drawn(60, 200, 2),
        several(star(11), 20), complete(20), drawn(70, 230, 4), several(complete(5), 20),
    ]


def name_of(place):
    """A name for a place, unlike for unlike places: of one letter, then of two, then of up to eight."""
    letters = "etaoinshrdlucmfwypvbgkjqxz"
    if place < 26:
        return letters[place]
    return letters[place % 26] * (1 + place % 6) + letters[place // 26 - 1] + "x"


def written(net, hours):
    """The lines of a timetable's text, by names for the points; an hour is left out where it is None."""
    return [
        f"{name_of(one)} {name_of(other)}" + ("" if hour is None else f" {hour}")
        for (one, other), hour in zip(net[1], hours)
    ]


def needed_by_hand(way, most):
    """Way None is a Manifold."""
    if most == 0:
        return 0
    return {Way: 2 * most - 1, TwoSided: most, Plain: most + 1}.get(way.__class__, most + most // 2)


def most_moved_by_hand(way, points):
    return {Way: 0, TwoSided: points - 1}.get(way.__class__, 2 * points)


def suits(way, net):
    """Whether the way takes the net."""
    if isinstance(way, TwoSided):
        return has_two_sides(net)
    return is_plain_by_hand(net) if isinstance(way, Plain) else True


def spread_of(tints, many):
    """By how many ties the fullest tint is ahead of the emptiest."""
    numbers = Counter(tint for tint in tints if tint is not None)
    return max([numbers[tint] for tint in range(many)], default=0) - min([numbers[tint] for tint in range(many)], default=0)


def most_at_a_point(net):
    return max(Counter(point for ends in net[1] for point in ends).values(), default=0)


def clean(net, tints):
    taken = Counter((point, tint) for ends, tint in zip(net[1], tints) if tint is not None for point in ends)
    return all(times == 1 for times in taken.values())


def drawn_tints(net, many, seed, bare=0.0):
    """A clean tinting of many tints: bare are a share of the ties, and those for which no tint was left."""
    source = Random(seed)
    tints = [None] * len(net[1])
    taken = [set() for point in range(net[0])]
    for tie in source.sample(range(len(net[1])), len(net[1])):
        one, other = net[1][tie]
        left = sorted(set(range(many)) - taken[one] - taken[other])
        if left and source.random() >= bare:
            tints[tie] = source.choice(left)
            taken[one].add(tints[tie])
            taken[other].add(tints[tie])
    return tuple(tints)


def chain_by_hand(net, tints, point, one, other):
    """The ties of a chain, found by going over all ties until none is added."""
    reached = {point}
    found = set()
    added = True
    while added:
        added = False
        for tie, ends in enumerate(net[1]):
            if tie not in found and tints[tie] in (one, other) and reached & set(ends):
                found.add(tie)
                reached |= set(ends)
                added = True
    return found


def step_by_hand(net, tints, step):
    row = list(tints)
    if step[0] == "turn":
        for tie in chain_by_hand(net, tints, *step[1:]):
            row[tie] = step[2] + step[3] - row[tie]
    elif step[0] == "tint":
        row[step[1]] = step[2]
    else:
        row[step[1]] = None
    return tuple(row)


class Judge(unittest.TestCase):
    def assert_refused(self, made, asked, field=None):
        """Asked is a function that is called; told is the refusal."""
        with self.assertRaises(TintError) as taken:
            asked()
        error = taken.exception
        self.assertIsInstance(error, ValueError)
        self.assertEqual([other for other in REFUSALS if isinstance(error, other)], [made])
        if field is not None:
            self.assertEqual(vars(error), field)
            self.assertEqual([type(value) for value in vars(error).values()], [type(value) for value in field.values()])
        return error

    def assert_numbers(self, row, kind=tuple):
        self.assertIs(type(row), kind)
        self.assertEqual({type(number) for number in row} - {int}, set())

    def assert_odd_ring(self, net, error):
        """The refusal's field, which it has alone, bars two sides."""
        self.assertEqual(list(vars(error)), ["ring"])
        row = error.ring
        self.assert_numbers(row)
        self.assertGreaterEqual(len(row), 3)
        self.assertEqual(len(row) % 2, 1)
        self.assertEqual(len(set(row)), len(row))
        tied = {frozenset(ends) for ends in net[1]}
        for place, point in enumerate(row):
            self.assertIn(frozenset((row[place - 1], point)), tied)

    def assert_pair(self, net, error):
        """The refusal's field, which it has alone, bars that the net is plain."""
        self.assertEqual(list(vars(error)), ["pair"])
        self.assert_numbers(error.pair)
        lower, higher = error.pair
        self.assertTrue(0 <= lower < higher < len(net[1]), error.pair)
        self.assertEqual(set(net[1][lower]), set(net[1][higher]))

    def assert_step(self, net, step, many):
        self.assertIs(type(step), tuple)
        self.assertIn(step[0], ("turn", "tint", "bare"))
        self.assertEqual(len(step), {"turn": 4, "tint": 3, "bare": 2}[step[0]])
        self.assert_numbers(step[1:])
        self.assertIn(step[1], range(net[0] if step[0] == "turn" else len(net[1])))
        self.assertEqual(len(set(step[2:])), len(step[2:]))
        for tint in step[2:]:
            self.assertIn(tint, range(many))

    def assert_steps(self, net, tints, steps, many):
        """Each leaves a clean tinting of many tints; told is the last one."""
        self.assertIs(type(steps), list)
        for step in steps:
            self.assert_step(net, step, many)
            tints = step_by_hand(net, tints, step)
            self.assertTrue(clean(net, tints), (net, step))
        return tints

    def assert_put(self, way, net, tints, tie, many, most_moved):
        """One tie put in by the way; told is the tinting behind."""
        steps = way.put(net, tints, tie, many)
        behind = self.assert_steps(net, tints, steps, many)
        self.assertLessEqual(len(steps), 4 * net[0] + 10)
        self.assertIsNotNone(behind[tie])
        others = [other for other in range(len(net[1])) if other != tie]
        for other in others:
            self.assertEqual(behind[other] is None, tints[other] is None)
        moved = [other for other in others if behind[other] != tints[other]]
        self.assertLessEqual(len(moved), most_moved(net[0]))
        return behind

    def assert_filled(self, way, net, tints, many, most_moved, seed=0, left=0):
        """The bare ties put in one behind another, in an order drawn, but for some left bare."""
        bare = [tie for tie, tint in enumerate(tints) if tint is None]
        bare = Random(seed).sample(bare, len(bare))
        for tie in bare[left:]:
            tints = self.assert_put(way, net, tints, tie, many, most_moved)
        self.assertEqual(sorted(bare[:left]), [tie for tie, tint in enumerate(tints) if tint is None])
        return tints

    def assert_stirred(self, way, net, many, most_moved, seed, times=30):
        """A full tinting, again and again some ties made bare, some chains turned, and the bare ties put in."""
        source = Random(seed)
        tints = self.assert_filled(way, net, drawn_tints(net, many, seed), many, most_moved, seed)
        for time in range(times):
            for tie in source.sample(range(len(net[1])), min(2, len(net[1]))):
                tints = step_by_hand(net, tints, ("bare", tie))
            for turn in range(4 if many > 1 else 0):
                tints = step_by_hand(net, tints, ("turn", source.randrange(net[0]), *source.sample(range(many), 2)))
            tints = self.assert_filled(way, net, tints, many, most_moved, seed + time)

    def assert_no_tie(self, way, net, tints, many):
        """What isn't the number of a bare tie, whatever many is and whatever the way says of the net."""
        ties = len(net[1])
        things = (-1, -ties, ties, ties + 1, 10 ** 30, -10 ** 30) + NO_NUMBERS
        things += tuple(tie for tie, tint in enumerate(tints) if tint is not None)
        things += tuple(thing for tie in range(min(ties, 3)) for thing in (float(tie), str(tie), (tie,), [tie], net[1][tie]))
        for thing in things:
            if type(thing) is int and 0 <= thing < ties and tints[thing] is None:
                continue
            for given in (many, 0, 1000):
                self.assert_refused(NoTie, lambda: way.put(net, tints, thing, given), {})

    def assert_lists_again(self, ask, asked):
        """Asked again, and the other way round, the same lists come, whatever was done to those told before."""
        told = [ask(*question) for question in asked]
        kept = [tuple(steps) for steps in told]
        for steps in told:
            steps.append("changed")
            steps.reverse()
        again = [ask(*question) for question in reversed(asked)][::-1]
        self.assertEqual([tuple(steps) for steps in again], kept)
        for steps in told:
            steps.clear()
        self.assertEqual([tuple(steps) for steps in again], kept)
        self.assertEqual([tuple(ask(*question)) for question in asked], kept)
        return kept

    def assert_same_again(self, make, asked):
        """Asked are tuples (net, tints, tie, many); the same of each way that is made so."""
        kept = self.assert_lists_again(make().put, asked)
        self.assertEqual([tuple(make().put(*question)) for question in asked], kept)
