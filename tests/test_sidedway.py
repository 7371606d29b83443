import unittest
from random import Random

from samples import (
    Judge, complete, complete_two_sided, drawn_even_two_sided, drawn_tints, drawn_two_sided, great_nets, line, most_at_a_point, nets, nets_beyond,
    renamed, ring, several, star,
)
from tintties.errors import NotTwoSided, TooFew
from tintties.sides import sides
from tintties.sidedway import TwoSided


def fewer_than_points(points):
    return points - 1


def two_sided_nets():
    found = [net for net in nets() if sides(net)[0] == "sides"]
    found += [complete_two_sided(one, other) for one in range(1, 7) for other in (1, 3, 6)]
    found += [renamed(several(complete_two_sided(3, 4), times), times) for times in (2, 5, 16)]
    found += [several(ring(4), 7), several(ring(6), 3), renamed(ring(20), 1), line(12), several(line(5), 4), star(15)]
    found += [several((2, ((0, 1),)), times) for times in (1, 2, 30)]
    found += [(9, ((0, 1), (1, 0), (3, 4), (4, 5), (5, 6), (6, 3), (3, 4)))]
    return found


def great_two_sided_nets():
    return [
        complete_two_sided(14, 14), renamed(complete_two_sided(10, 20), 3), drawn_two_sided(60, 200, 3),
        several(complete_two_sided(5, 5), 8), renamed(several(ring(40), 5), 2), several((2, ((1, 0),)), 200),
        drawn_two_sided(70, 230, 5),
    ]


def odd_nets():
    found = [net for net in nets() + great_nets() + nets_beyond() if sides(net)[0] == "ring"]
    return found + [ring(3), ring(5), ring(59), several(ring(7), 3), complete(4), renamed(complete(9), 1)]


class TwoSidedTest(Judge):
    def assert_odd_ring(self, net, error):
        self.assertEqual(list(vars(error)), ["ring"])
        row = error.ring
        self.assert_numbers(row)
        self.assertGreaterEqual(len(row), 3)
        self.assertEqual(len(row) % 2, 1)
        self.assertEqual(len(set(row)), len(row))
        tied = {frozenset(ends) for ends in net[1]}
        for place, point in enumerate(row):
            self.assertIn(frozenset((row[place - 1], point)), tied)

    def test_needed(self):
        for most in (0, 1, 2, 3, 4, 5, 200, 10 ** 40):
            self.assertEqual(TwoSided().needed(most), most)
            self.assertIs(type(TwoSided().needed(most)), int)

    def test_asked(self):
        way = TwoSided()
        for net in two_sided_nets() + great_two_sided_nets():
            self.assertIsNone(way.asked(net))
        for net in odd_nets():
            self.assert_odd_ring(net, self.assert_refused(NotTwoSided, lambda: way.asked(net)))
        for net in two_sided_nets():
            self.assertIsNone(way.asked(net))

    def test_filled(self):
        for seed, net in enumerate(two_sided_nets()):
            most = most_at_a_point(net)
            for many in (most, most + 1):
                for bare in (0.0, 0.3, 1.0):
                    tints = drawn_tints(net, many, seed, bare)
                    self.assert_filled(TwoSided(), net, tints, many, fewer_than_points, seed)
                    self.assert_filled(TwoSided(), net, tints, many, fewer_than_points, seed + 1, 1 + seed % 4)

    def test_stirred(self):
        for half in (2, 3, 4, 6, 10):
            for crowd in (2, 3, 5):
                for seed in range(3):
                    net = renamed(drawn_even_two_sided(half, crowd, seed), seed)
                    self.assert_stirred(TwoSided(), net, crowd, fewer_than_points, seed)

    def test_hundreds_of_tints_more(self):
        for seed, net in enumerate(two_sided_nets()):
            many = most_at_a_point(net) + 400
            self.assert_filled(TwoSided(), net, drawn_tints(net, many, seed, 0.3), many, fewer_than_points, seed)
            narrow = drawn_tints(net, most_at_a_point(net), seed, 0.3)
            self.assert_filled(TwoSided(), net, narrow, 1000, fewer_than_points, seed)

    def test_great(self):
        for net in great_two_sided_nets():
            many = most_at_a_point(net)
            self.assert_filled(TwoSided(), net, (None,) * len(net[1]), many, fewer_than_points, 1)
            self.assert_filled(TwoSided(), net, drawn_tints(net, many, 2), many, fewer_than_points, 2, 7)

    def test_a_long_way_to_turn(self):
        # The line's ends each lack the other one's tint, so the tie between them waits for the whole line.
        for points in range(4, 61, 2):
            net = (points, line(points)[1] + ((0, points - 1),))
            tints = tuple(tie % 2 for tie in range(points - 1)) + (None,)
            self.assertEqual(self.assert_put(TwoSided(), net, tints, points - 1, 2, fewer_than_points)[-1], 1)
            cut = tints[:1] + (None,) + tints[2:]
            self.assert_put(TwoSided(), net, cut, 1, 2, fewer_than_points)
            shifted = (None,) + tuple(tie % 2 for tie in range(points - 2)) + (0,)
            self.assertEqual(shifted[1], shifted[-1])
            self.assert_put(TwoSided(), net, shifted, 0, 2, fewer_than_points)
            hung = (points + 1, ring(points)[1] + ((0, points),))
            for seed in range(3):
                self.assert_filled(TwoSided(), hung, drawn_tints(hung, 3, seed), 3, fewer_than_points)

    def test_no_tie(self):
        for net in ((0, ()), (2, ((0, 1),)), complete_two_sided(3, 3), several(ring(4), 3), ring(5), complete(4)):
            for bare in (0.0, 0.5, 1.0):
                self.assert_no_tie(TwoSided(), net, drawn_tints(net, 5, 1, bare), 5)

    def test_refused_as_when_asked(self):
        for net in odd_nets():
            most = most_at_a_point(net)
            for many in (0, most - 1, most, 2 * most, 1000):
                tints = drawn_tints(net, max(many - 2, 0), 1, 0.3)
                tie = [tie for tie, tint in enumerate(tints) if tint is None][-1:]
                for number in tie:
                    error = self.assert_refused(NotTwoSided, lambda: TwoSided().put(net, tints, number, many))
                    self.assert_odd_ring(net, error)

    def test_too_few(self):
        for net in two_sided_nets() + great_two_sided_nets():
            most = most_at_a_point(net)
            for many in sorted({0, most // 2, most - 1} & set(range(most))):
                for tie in (0, len(net[1]) - 1):
                    tints = (None,) * len(net[1])
                    self.assert_refused(TooFew, lambda: TwoSided().put(net, tints, tie, many), {"need": most})

    def test_same_again(self):
        asked = []
        for seed, net in enumerate(two_sided_nets()):
            most = most_at_a_point(net)
            for tints in ((None,) * len(net[1]), drawn_tints(net, most, seed)):
                bare = [tie for tie, tint in enumerate(tints) if tint is None]
                asked += [(net, tints, tie, many) for tie in Random(1).sample(bare, len(bare))[:4] for many in (most, most + 2)]
        self.assert_same_again(TwoSided, asked)

    def test_one_for_several_nets(self):
        way = TwoSided()
        first = []
        for time in range(2):
            for seed, net in enumerate(two_sided_nets()):
                most = most_at_a_point(net)
                first.append(self.assert_filled(way, net, drawn_tints(net, most, seed), most, fewer_than_points, seed))
        self.assertEqual(first[:len(first) // 2], first[len(first) // 2:])


if __name__ == "__main__":
    unittest.main()
