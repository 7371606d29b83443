import unittest
from random import Random

from samples import (
    Judge, complete, drawn, drawn_even, drawn_tints, fat_nets, great_fat_nets, great_nets, most_at_a_point, nets,
    nets_beyond, ring, several,
)
from tintties.errors import TooFew
from tintties.manifold import Manifold


def twice_points(points):
    return 2 * points


def needed(net):
    return most_at_a_point(net) * 3 // 2


class ManifoldTest(Judge):
    def test_needed(self):
        for most, need in (
            (0, 0), (1, 1), (2, 3), (3, 4), (4, 6), (5, 7), (6, 9), (7, 10), (200, 300), (199, 298),
            (2 * 10 ** 40, 3 * 10 ** 40), (2 * 10 ** 40 + 1, 3 * 10 ** 40 + 1),
        ):
            self.assertEqual(Manifold().needed(most), need)
            self.assertIs(type(Manifold().needed(most)), int)

    def test_asked(self):
        for net in nets() + great_nets() + nets_beyond() + fat_nets():
            self.assertIsNone(Manifold().asked(net))

    def test_filled(self):
        for seed, net in enumerate(nets() + fat_nets()):
            need = needed(net)
            for many in (need, need + 1):
                for bare in (0.0, 0.3, 1.0):
                    tints = drawn_tints(net, many, seed, bare)
                    self.assert_filled(Manifold(), net, tints, many, twice_points, seed)
                    self.assert_filled(Manifold(), net, tints, many, twice_points, seed + 1, 1 + seed % 4)

    def test_three_points_in_many_orders(self):
        for times in range(1, 9):
            net = several(ring(3), times)
            for seed in range(40):
                for tints in (drawn_tints(net, 3 * times, seed), drawn_tints(net, 3 * times - 1, seed)):
                    self.assert_filled(Manifold(), net, tints, 3 * times, twice_points, seed)

    def test_drawn_in_many_orders(self):
        for seed in range(400):
            net = drawn(3 + seed % 6, 6 + seed % 17, seed)
            tints = drawn_tints(net, needed(net), seed)
            self.assert_filled(Manifold(), net, tints, needed(net), twice_points, seed)

    def test_stirred(self):
        for points in (4, 5, 6, 8, 12, 20):
            for crowd in (3, 3, 4, 5, 7):
                for seed in range(6):
                    net = drawn_even(points, crowd, seed)
                    self.assert_stirred(Manifold(), net, needed(net), twice_points, seed)

    def test_no_tint_shared_with_the_first_end(self):
        # At the far end of each tie that could hand its tint over, none is free that is free at the first end, too.
        net = (6, ((3, 5), (0, 4), (5, 1), (1, 2), (3, 1), (2, 0), (5, 4), (0, 3), (4, 2)))
        self.assert_put(Manifold(), net, (2, 1, 1, None, 0, 2, 0, 3, 3), 3, 4, twice_points)
        net = (7, ((5, 1), (6, 3), (2, 0), (4, 0), (2, 4), (6, 1), (3, 4), (5, 6), (5, 1), (2, 3)))
        self.assert_put(Manifold(), net, (3, 0, 2, 0, None, 1, 3, 2, 0, 1), 4, 4, twice_points)
        net = (6, ((5, 0), (3, 1), (4, 0), (4, 3), (2, 3), (0, 5), (5, 4)))
        self.assert_put(Manifold(), net, (1, 0, None, 2, 1, 0, 3), 2, 4, twice_points)

    def test_hundreds_of_tints_more(self):
        for seed, net in enumerate(fat_nets()):
            many = needed(net) + 400
            self.assert_filled(Manifold(), net, drawn_tints(net, many, seed, 0.3), many, twice_points, seed)
            self.assert_filled(Manifold(), net, drawn_tints(net, needed(net), seed, 0.3), 1000, twice_points, seed)

    def test_great(self):
        for net in great_fat_nets():
            many = needed(net)
            self.assert_filled(Manifold(), net, (None,) * len(net[1]), many, twice_points, 1)
            self.assert_filled(Manifold(), net, drawn_tints(net, many, 2), many, twice_points, 2, 7)

    def test_no_tie(self):
        for net in ((0, ()), (2, ((0, 1),)), complete(5), several(ring(3), 3), ring(60)):
            for bare in (0.0, 0.5, 1.0):
                self.assert_no_tie(Manifold(), net, drawn_tints(net, needed(net), 1, bare), needed(net))

    def test_too_few(self):
        for net in nets() + fat_nets() + great_fat_nets():
            need = needed(net)
            for many in sorted({0, need // 2, need - 1} & set(range(need))):
                for tie in (0, len(net[1]) - 1):
                    tints = (None,) * len(net[1])
                    self.assert_refused(TooFew, lambda: Manifold().put(net, tints, tie, many), {"need": need})

    def test_same_again(self):
        asked = []
        for seed, net in enumerate(nets() + fat_nets()):
            need = needed(net)
            for tints in ((None,) * len(net[1]), drawn_tints(net, need, seed)):
                bare = [tie for tie, tint in enumerate(tints) if tint is None]
                asked += [(net, tints, tie, many) for tie in Random(1).sample(bare, len(bare))[:4] for many in (need, need + 2)]
        self.assert_same_again(Manifold, asked)

    def test_one_for_several_nets(self):
        way = Manifold()
        first = []
        for time in range(2):
            for seed, net in enumerate(fat_nets()):
                need = needed(net)
                first.append(self.assert_filled(way, net, drawn_tints(net, need, seed), need, twice_points, seed))
        self.assertEqual(first[:len(first) // 2], first[len(first) // 2:])


if __name__ == "__main__":
    unittest.main()
