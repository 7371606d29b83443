import unittest

from samples import (
    Judge, complete, complete_two_sided, drawn_tints, great_nets, most_at_a_point, nets, nets_beyond, ring, several, star,
)
from tintties.errors import TooFew
from tintties.fans import Plain
from tintties.manifold import Manifold
from tintties.sidedway import TwoSided
from tintties.ways import Way


def none_moved(points):
    return 0


def needed(net):
    return max(2 * most_at_a_point(net) - 1, 0)


class ClassesTest(unittest.TestCase):
    def test_what_stands_under_what(self):
        self.assertEqual(Way.__bases__, (object,))
        for made in (TwoSided, Plain, Manifold):
            self.assertEqual(made.__bases__, (Way,))
            self.assertIsInstance(made(), Way)
        for made in (Way, TwoSided, Plain, Manifold):
            for other in (TwoSided, Plain, Manifold):
                self.assertEqual(isinstance(made(), other), made is other)

    def test_needed_by_each(self):
        for most in list(range(30)) + [200, 999, 10 ** 50, 10 ** 50 + 1]:
            self.assertEqual(Way().needed(most), 2 * most - 1 if most else 0)
            self.assertEqual(TwoSided().needed(most), most)
            self.assertEqual(Plain().needed(most), most + 1 if most else 0)
            self.assertEqual(Manifold().needed(most), most + most // 2)


class WayTest(Judge):
    def test_needed(self):
        for most, need in ((0, 0), (1, 1), (2, 3), (3, 5), (4, 7), (200, 399), (10 ** 40, 2 * 10 ** 40 - 1)):
            self.assertEqual(Way().needed(most), need)
            self.assertIs(type(Way().needed(most)), int)

    def test_asked(self):
        for net in nets() + great_nets() + nets_beyond():
            self.assertIsNone(Way().asked(net))

    def test_filled(self):
        for seed, net in enumerate(nets()):
            need = needed(net)
            for many in (need, need + 1, need + 300):
                self.assert_filled(Way(), net, (None,) * len(net[1]), many, none_moved, seed)
                self.assert_filled(Way(), net, drawn_tints(net, many, seed, 0.4), many, none_moved, seed, seed % 3)

    def test_great(self):
        for net in great_nets() + nets_beyond() + [several(ring(3), 60), several((2, ((0, 1),)), 200), star(60)]:
            for many in (needed(net), 1000):
                self.assert_filled(Way(), net, (None,) * len(net[1]), many, none_moved, 1)
                self.assert_filled(Way(), net, drawn_tints(net, many, 2, 0.5), many, none_moved, 2, 5)

    def test_one_tint_left(self):
        # All ties at both points but the one that is put in have unlike tints: just one of those needed is free.
        for crowd in range(1, 20):
            ties = tuple((0, 2 + place) for place in range(crowd - 1)) + tuple((21 + place, 1) for place in range(crowd - 1))
            net = (60, ties + ((1, 0),))
            for free in range(2 * crowd - 1):
                tints = tuple(tint for tint in range(2 * crowd - 1) if tint != free) + (None,)
                behind = self.assert_put(Way(), net, tints, len(ties), 2 * crowd - 1, none_moved)
                self.assertEqual(behind[-1], free)

    def test_others_bare(self):
        net = complete(7)
        for seed in range(20):
            tints = drawn_tints(net, 11, seed, 0.7)
            for tie in range(21):
                if tints[tie] is None:
                    self.assert_put(Way(), net, tints, tie, 11, none_moved)

    def test_no_tie(self):
        for net in ((0, ()), (2, ()), (2, ((0, 1),)), complete(5), several(ring(3), 3), ring(60)):
            need = needed(net)
            for bare in (0.0, 0.5, 1.0):
                self.assert_no_tie(Way(), net, drawn_tints(net, need, 1, bare), need)

    def test_too_few(self):
        for net in nets() + great_nets():
            need = needed(net)
            for many in sorted({0, 1, need // 2, need - 1} & set(range(need))):
                for tie in (0, len(net[1]) - 1):
                    tints = (None,) * len(net[1])
                    self.assert_refused(TooFew, lambda: Way().put(net, tints, tie, many), {"need": need})
        # The crowd of another point counts, and so do its bare ties.
        net = (60, star(59)[1] + ((58, 59),))
        self.assert_refused(TooFew, lambda: Way().put(net, (None,) * 59, 58, 114), {"need": 115})
        self.assertEqual(len(Way().put(net, (None,) * 59, 58, 115)), 1)

    def test_same_again(self):
        asked = []
        for seed, net in enumerate(nets() + [complete_two_sided(5, 5)]):
            need = needed(net)
            for tints in ((None,) * len(net[1]), drawn_tints(net, need, seed, 0.5)):
                bare = [tie for tie, tint in enumerate(tints) if tint is None]
                asked += [(net, tints, tie, many) for tie in bare[:4] for many in (need, need + 7)]
        self.assert_same_again(Way, asked)

    def test_one_way_for_several_nets(self):
        way = Way()
        for time in range(2):
            for seed, net in enumerate(nets()):
                self.assert_filled(way, net, drawn_tints(net, needed(net), seed, 0.5), needed(net), none_moved, seed)


if __name__ == "__main__":
    unittest.main()
