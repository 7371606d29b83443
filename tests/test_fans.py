import unittest
from random import Random

from samples import (
    Judge, complete, doubled_nets, drawn_plain, drawn_tints, great_plain_nets, most_at_a_point, plain_nets, renamed,
    ring, several,
)
from tintties.errors import NotPlain, TooFew
from tintties.fans import Plain


def twice_points(points):
    return 2 * points


class PlainTest(Judge):
    def test_needed(self):
        for most, need in ((0, 0), (1, 2), (2, 3), (3, 4), (4, 5), (200, 201), (10 ** 40, 10 ** 40 + 1)):
            self.assertEqual(Plain().needed(most), need)
            self.assertIs(type(Plain().needed(most)), int)

    def test_asked(self):
        way = Plain()
        for net in plain_nets() + great_plain_nets():
            self.assertIsNone(way.asked(net))
        for net in doubled_nets():
            self.assert_pair(net, self.assert_refused(NotPlain, lambda: way.asked(net)))
        for net in plain_nets():
            self.assertIsNone(way.asked(net))

    def test_filled(self):
        for seed, net in enumerate(plain_nets()):
            most = most_at_a_point(net)
            for many in (most + 1, most + 2):
                for bare in (0.0, 0.3, 1.0):
                    tints = drawn_tints(net, many, seed, bare)
                    self.assert_filled(Plain(), net, tints, many, twice_points, seed)
                    self.assert_filled(Plain(), net, tints, many, twice_points, seed + 1, 1 + seed % 4)

    def test_all_pairs_in_many_orders(self):
        for points in range(3, 10):
            for seed in range(30):
                net = renamed(complete(points), seed)
                for tints in ((None,) * len(net[1]), drawn_tints(net, points, seed)):
                    self.assert_filled(Plain(), net, tints, points, twice_points, seed)

    def test_stirred(self):
        for points in range(4, 11):
            for seed in range(3):
                self.assert_stirred(Plain(), renamed(complete(points), seed), points, twice_points, seed)
                net = drawn_plain(points, points * (points - 1) // 3, seed)
                self.assert_stirred(Plain(), net, most_at_a_point(net) + 1, twice_points, seed)

    def test_the_last_tie_of_odd_all_pairs(self):
        # As many tints as points, and none is free at more points than it must: so room has to be made for each tie.
        for points in (5, 7, 9, 11):
            net = complete(points)
            tints = tuple((one + other) % points for one, other in net[1])
            for tie in range(len(net[1])):
                bared = tints[:tie] + (None,) + tints[tie + 1:]
                self.assert_put(Plain(), net, bared, tie, points, twice_points)
                for next_tie in (0, len(net[1]) // 2, len(net[1]) - 1):
                    if next_tie != tie:
                        bared = tuple(None if at in (tie, next_tie) else tint for at, tint in enumerate(tints))
                        self.assert_filled(Plain(), net, bared, points, twice_points, tie)

    def test_hundreds_of_tints_more(self):
        for seed, net in enumerate(plain_nets()):
            many = most_at_a_point(net) + 400
            self.assert_filled(Plain(), net, drawn_tints(net, many, seed, 0.3), many, twice_points, seed)
            narrow = drawn_tints(net, most_at_a_point(net) + 1, seed, 0.3)
            self.assert_filled(Plain(), net, narrow, 1000, twice_points, seed)

    def test_great(self):
        for net in great_plain_nets():
            many = most_at_a_point(net) + 1
            self.assert_filled(Plain(), net, (None,) * len(net[1]), many, twice_points, 1)
            self.assert_filled(Plain(), net, drawn_tints(net, many, 2), many, twice_points, 2, 7)

    def test_no_tie(self):
        for net in ((0, ()), (2, ((0, 1),)), complete(5), ring(7), (2, ((0, 1), (1, 0))), several(ring(5), 2)):
            for bare in (0.0, 0.5, 1.0):
                self.assert_no_tie(Plain(), net, drawn_tints(net, 5, 1, bare), 5)

    def test_refused_as_when_asked(self):
        for net in doubled_nets():
            most = most_at_a_point(net)
            for many in (0, most, most + 1, 2 * most, 1000):
                tints = drawn_tints(net, max(many - 2, 0), 1, 0.3)
                for tie in [tie for tie, tint in enumerate(tints) if tint is None][-1:]:
                    self.assert_pair(net, self.assert_refused(NotPlain, lambda: Plain().put(net, tints, tie, many)))

    def test_too_few(self):
        for net in plain_nets() + great_plain_nets():
            most = most_at_a_point(net)
            for many in sorted({0, most // 2, most - 1, most} & set(range(most + 1 if net[1] else 0))):
                for tie in (0, len(net[1]) - 1):
                    tints = (None,) * len(net[1])
                    self.assert_refused(TooFew, lambda: Plain().put(net, tints, tie, many), {"need": most + 1})

    def test_same_again(self):
        asked = []
        for seed, net in enumerate(plain_nets()):
            need = most_at_a_point(net) + 1
            for tints in ((None,) * len(net[1]), drawn_tints(net, need, seed)):
                bare = [tie for tie, tint in enumerate(tints) if tint is None]
                asked += [(net, tints, tie, many) for tie in Random(1).sample(bare, len(bare))[:4] for many in (need, need + 2)]
        self.assert_same_again(Plain, asked)

    def test_one_for_several_nets(self):
        way = Plain()
        first = []
        for time in range(2):
            for seed, net in enumerate(plain_nets()):
                need = most_at_a_point(net) + 1
                first.append(self.assert_filled(way, net, drawn_tints(net, need, seed), need, twice_points, seed))
        self.assertEqual(first[:len(first) // 2], first[len(first) // 2:])


if __name__ == "__main__":
    unittest.main()
