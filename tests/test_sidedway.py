import unittest
from random import Random

from samples import (
    Judge, complete, complete_two_sided, drawn_even_two_sided, drawn_tints, great_two_sided_nets, line,
    most_at_a_point, odd_nets, renamed, ring, several, two_sided_nets,
)
from tintties.errors import NotTwoSided, TooFew
from tintties.sidedway import TwoSided


def fewer_than_points(points):
    return points - 1


class TwoSidedTest(Judge):
    def test_needed(self):
        for most in (0, 1, 2, 3, 4, 5, 200, 10 ** 40):
            self.assertEqual(TwoSided().needed(most), most)
            self.assertIs(type(TwoSided().needed(most)), int)

    def test_asked(self):
        way = TwoSided()
        for net in two_sided_nets() + great_two_sided_nets():
            self.assertIsNone(way.asked(net))
        for net in odd_nets():
            self.assert_odd_ring(net, self.assert_refused(NotTwoSided, lambda: way.asked(net)))
        for net in two_sided_nets():
            self.assertIsNone(way.asked(net))

    def test_filled(self):
        for seed, net in enumerate(two_sided_nets()):
            most = most_at_a_point(net)
            for many in (most, most + 1):
                for bare in (0.0, 0.3, 1.0):
                    tints = drawn_tints(net, many, seed, bare)
                    self.assert_filled(TwoSided(), net, tints, many, fewer_than_points, seed)
                    self.assert_filled(TwoSided(), net, tints, many, fewer_than_points, seed + 1, 1 + seed % 4)

    def test_stirred(self):
        for half in (2, 3, 4, 6, 10):
            for crowd in (2, 3, 5):
                for seed in range(3):
                    net = renamed(drawn_even_two_sided(half, crowd, seed), seed)
                    self.assert_stirred(TwoSided(), net, crowd, fewer_than_points, seed)

    def test_hundreds_of_tints_more(self):
        for seed, net in enumerate(two_sided_nets()):
            many = most_at_a_point(net) + 400
            self.assert_filled(TwoSided(), net, drawn_tints(net, many, seed, 0.3), many, fewer_than_points, seed)
            narrow = drawn_tints(net, most_at_a_point(net), seed, 0.3)
            self.assert_filled(TwoSided(), net, narrow, 1000, fewer_than_points, seed)

    def test_great(self):
        for net in great_two_sided_nets():
            many = most_at_a_point(net)
            self.assert_filled(TwoSided(), net, (None,) * len(net[1]), many, fewer_than_points, 1)
            self.assert_filled(TwoSided(), net, drawn_tints(net, many, 2), many, fewer_than_points, 2, 7)

    def test_a_long_way_to_turn(self):
        # The line's ends each lack the other one's tint, so the tie between them waits for the whole line.
        for points in range(4, 61, 2):
            net = (points, line(points)[1] + ((0, points - 1),))
            tints = tuple(tie % 2 for tie in range(points - 1)) + (None,)
            self.assertEqual(self.assert_put(TwoSided(), net, tints, points - 1, 2, fewer_than_points)[-1], 1)
            cut = tints[:1] + (None,) + tints[2:]
            self.assert_put(TwoSided(), net, cut, 1, 2, fewer_than_points)
            shifted = (None,) + tuple(tie % 2 for tie in range(points - 2)) + (0,)
            self.assertEqual(shifted[1], shifted[-1])
            self.assert_put(TwoSided(), net, shifted, 0, 2, fewer_than_points)
            hung = (points + 1, ring(points)[1] + ((0, points),))
            for seed in range(3):
                self.assert_filled(TwoSided(), hung, drawn_tints(hung, 3, seed), 3, fewer_than_points)

    def test_no_tie(self):
        for net in ((0, ()), (2, ((0, 1),)), complete_two_sided(3, 3), several(ring(4), 3), ring(5), complete(4)):
            for bare in (0.0, 0.5, 1.0):
                self.assert_no_tie(TwoSided(), net, drawn_tints(net, 5, 1, bare), 5)

    def test_refused_as_when_asked(self):
        for net in odd_nets():
            most = most_at_a_point(net)
            for many in (0, most - 1, most, 2 * most, 1000):
                tints = drawn_tints(net, max(many - 2, 0), 1, 0.3)
                tie = [tie for tie, tint in enumerate(tints) if tint is None][-1:]
                for number in tie:
                    error = self.assert_refused(NotTwoSided, lambda: TwoSided().put(net, tints, number, many))
                    self.assert_odd_ring(net, error)

    def test_too_few(self):
        for net in two_sided_nets() + great_two_sided_nets():
            most = most_at_a_point(net)
            for many in sorted({0, most // 2, most - 1} & set(range(most))):
                for tie in (0, len(net[1]) - 1):
                    tints = (None,) * len(net[1])
                    self.assert_refused(TooFew, lambda: TwoSided().put(net, tints, tie, many), {"need": most})

    def test_same_again(self):
        asked = []
        for seed, net in enumerate(two_sided_nets()):
            most = most_at_a_point(net)
            for tints in ((None,) * len(net[1]), drawn_tints(net, most, seed)):
                bare = [tie for tie, tint in enumerate(tints) if tint is None]
                asked += [(net, tints, tie, many) for tie in Random(1).sample(bare, len(bare))[:4] for many in (most, most + 2)]
        self.assert_same_again(TwoSided, asked)

    def test_one_for_several_nets(self):
        way = TwoSided()
        first = []
        for time in range(2):
            for seed, net in enumerate(two_sided_nets()):
                most = most_at_a_point(net)
                first.append(self.assert_filled(way, net, drawn_tints(net, most, seed), most, fewer_than_points, seed))
        self.assertEqual(first[:len(first) // 2], first[len(first) // 2:])


if __name__ == "__main__":
    unittest.main()
