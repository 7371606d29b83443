import unittest

from samples import (
    Judge, clean, complete, complete_two_sided, doubled_nets, drawn, fat_nets, great_fat_nets, great_nets,
    great_plain_nets, great_two_sided_nets, most_at_a_point, nets, nets_beyond, odd_nets, plain_nets, ring, several, star,
    two_sided_nets,
)
from tintties.errors import NotPlain, NotTwoSided
from tintties.fans import Plain
from tintties.manifold import Manifold
from tintties.sidedway import TwoSided
from tintties.tinted import tinted
from tintties.ways import Way


def any_nets():
    return nets() + great_nets() + nets_beyond() + fat_nets() + great_fat_nets() + [ring(5), star(60), complete(20)]


class TintedTest(Judge):
    def assert_full(self, net, tints, many):
        self.assert_numbers(tints)
        self.assertEqual(len(tints), len(net[1]))
        self.assertTrue(clean(net, tints), net)
        for tint in tints:
            self.assertIn(tint, range(many))

    def test_way(self):
        for net in any_nets():
            self.assert_full(net, tinted(net, Way()), max(2 * most_at_a_point(net) - 1, 0))

    def test_two_sided(self):
        for net in two_sided_nets() + great_two_sided_nets():
            self.assert_full(net, tinted(net, TwoSided()), most_at_a_point(net))

    def test_plain(self):
        for net in plain_nets() + great_plain_nets():
            self.assert_full(net, tinted(net, Plain()), most_at_a_point(net) + 1)

    def test_manifold(self):
        for net in any_nets():
            self.assert_full(net, tinted(net, Manifold()), 3 * most_at_a_point(net) // 2)

    def test_way_left_out(self):
        for net in any_nets():
            told = tinted(net)
            self.assert_full(net, told, 3 * most_at_a_point(net) // 2)
            self.assertEqual(tinted(net, None), told)
            self.assertEqual(tinted(net, way=Manifold()), told)

    def test_nets_in_which_no_fewer_do(self):
        for times in (1, 2, 5, 30):
            net = several(ring(3), times)
            self.assertEqual(sorted(tinted(net)), list(range(3 * times)))
        self.assertEqual(sorted(set(tinted(complete(5), Plain()))), list(range(5)))
        self.assertEqual(sorted(set(tinted(complete_two_sided(4, 4), TwoSided()))), list(range(4)))

    def test_without_ties(self):
        for points in (0, 1, 2, 60):
            for way in (None, Way(), TwoSided(), Plain(), Manifold()):
                self.assertEqual(tinted((points, ()), way), ())
            self.assertEqual(tinted((points, ())), ())

    def test_one_tie(self):
        for way in (Way(), TwoSided(), Manifold(), None):
            self.assertEqual(tinted((2, ((1, 0),)), way), (0,))
        self.assertIn(tinted((2, ((1, 0),)), Plain()), ((0,), (1,)))

    def test_refused_likewise(self):
        for net in odd_nets():
            self.assert_odd_ring(net, self.assert_refused(NotTwoSided, lambda: tinted(net, TwoSided())))
        for net in doubled_nets():
            self.assert_pair(net, self.assert_refused(NotPlain, lambda: tinted(net, Plain())))

    def test_told_again(self):
        ways = (Way(), TwoSided(), Plain(), Manifold())
        asked = [(net, way) for net in (two_sided_nets() + [drawn(8, 20, 1)])[:40] for way in ways]
        asked = [(net, way) for net, way in asked if not refuses(way, net)]
        first = [tinted(net, way) for net, way in asked]
        self.assertEqual([tinted(net, way) for net, way in reversed(asked)][::-1], first)
        self.assertEqual([tinted(net, way.__class__()) for net, way in asked], first)


def refuses(way, net):
    try:
        return way.asked(net) is not None
    except (NotTwoSided, NotPlain):
        return True


if __name__ == "__main__":
    unittest.main()
