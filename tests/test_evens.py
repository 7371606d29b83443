import unittest

from samples import (
    Judge, complete, complete_two_sided, drawn, drawn_tints, fat_nets, great_nets, line, most_at_a_point, nets,
    nets_beyond, renamed, ring, several, spread_of, star,
)
from tintties.errors import TooFew
from tintties.evens import evened
from tintties.fans import Plain
from tintties.tinted import tinted
from tintties.ways import Way


def lopsided(net):
    """Each tie, in order, with the lowest tint that is left: so the low tints are on many ties, the high ones on few."""
    return tinted(net, Way())


class EvenedTest(Judge):
    def assert_evened(self, net, tints, many):
        steps = evened(net, tints, many)
        behind = self.assert_steps(net, tints, steps, many)
        for step in steps:
            self.assertEqual(step[0], "turn")
        self.assertLessEqual(len(steps), len(net[1]))
        self.assertLessEqual(spread_of(behind, many), 1)
        self.assertEqual([tint is None for tint in behind], [tint is None for tint in tints])
        if spread_of(tints, many) < 2:
            self.assertEqual(steps, [])
        return behind

    def test_drawn(self):
        for seed, net in enumerate(nets() + fat_nets()):
            for many in (1, 2, 3, 8, 30):
                for bare in (0.0, 0.3):
                    self.assert_evened(net, drawn_tints(net, many, seed, bare), many)

    def test_lopsided(self):
        for net in nets() + fat_nets():
            tints = lopsided(net)
            need = max(tints, default=0) + 1
            for many in (need, need + 1, need + 2, 2 * need, need + 60):
                self.assert_evened(net, tints, many)
                some = tuple(None if tie % 4 == 1 else tint for tie, tint in enumerate(tints))
                self.assert_evened(net, some, many)

    def test_great(self):
        for net in great_nets() + nets_beyond() + [complete(20), complete_two_sided(14, 14), several(ring(3), 66)]:
            tints = lopsided(net)
            for many in (max(tints) + 1, 2 * most_at_a_point(net), 250, 1000):
                self.assert_evened(net, tints, max(many, max(tints) + 1))
        net = complete(19)
        self.assert_evened(net, tinted(net, Plain()), 19)

    def test_all_of_one_tint(self):
        apart = (60, tuple((point, point + 1) for point in range(0, 60, 2)))
        for tint in (0, 1, 5, 29):
            for many in (tint + 1, tint + 2, 30, 31, 45, 1000):
                behind = self.assert_evened(apart, (tint,) * 30, many)
                if many >= 30:
                    self.assertEqual(len(set(behind)), 30)
        self.assertEqual(len(evened(apart, (0,) * 30, 2)), 15)

    def test_long_chains(self):
        for points in (5, 30, 59, 60):
            net = line(points)
            tints = tuple(tie % 2 for tie in range(points - 1))
            self.assertEqual(evened(net, tints, 2), [])
            for many in (3, 4, 7, 60):
                self.assert_evened(net, tints, many)
                self.assert_evened(renamed(net, 1), drawn_tints(renamed(net, 1), 3, 1), many)

    def test_even_already(self):
        for net, tints, many in (
            ((0, ()), (), 1), ((0, ()), (), 7), ((5, ()), (), 3), ((2, ((0, 1),)), (4,), 9), ((2, ((0, 1),)), (None,), 1),
            (ring(4), (0, 1, 0, 1), 2), (ring(3), (0, 1, 2), 3), (ring(4), (0, 1, 0, 2), 3), (star(5), (9, 2, 7, None), 10),
        ):
            self.assertEqual(evened(net, tints, many), [])

    def test_without_tints_at_all(self):
        self.assertEqual(evened((0, ()), (), 0), [])
        self.assertEqual(evened((2, ()), (), 0), [])

    def test_written_out(self):
        self.assertEqual(evened((4, ((0, 1), (2, 3))), (0, 0), 1), [])
        self.assertEqual(sorted(self.assert_evened((4, ((0, 1), (2, 3))), (0, 0), 2)), [0, 1])
        self.assertEqual(len(evened((4, ((0, 1), (2, 3))), (0, 0), 2)), 1)
        self.assertEqual(sorted(self.assert_evened((6, ((0, 1), (2, 3), (4, 5))), (1, 1, 1), 3)), [0, 1, 2])
        # A ring and a way of even length have as many of both tints: only the odd way can be turned to some use.
        net = (9, ring(4)[1] + ((4, 5), (5, 6), (7, 8)))
        self.assertEqual(self.assert_evened(net, (0, 1, 0, 1, 0, 1, 0), 2), (0, 1, 0, 1, 0, 1, 0))
        net = (11, net[1] + ((9, 10),))
        self.assertEqual(sorted(self.assert_evened(net, (0, 1, 0, 1, 0, 1, 0, 0), 2)), [0] * 4 + [1] * 4)

    def test_too_few(self):
        for net, tints in (
            (ring(4), (0, 1, 0, 1)), (ring(4), (0, 999, 0, None)), (star(5), (3, 1, 2, 0)), ((2, ((0, 1),)), (0,)),
            ((2, ((0, 1),)), (999,)), (ring(3), (None, 7, None)),
        ):
            need = max(tint for tint in tints if tint is not None) + 1
            for many in sorted({0, 1, need // 2, need - 1} & set(range(need))):
                self.assert_refused(TooFew, lambda: evened(net, tints, many), {"need": need})
            self.assert_evened(net, tints, need)

    def test_asked_again(self):
        asked = [(net, lopsided(net), most_at_a_point(net) * 2 + seed % 3) for seed, net in enumerate(nets())]
        asked.append((drawn(40, 90, 1), lopsided(drawn(40, 90, 1)), 40))
        self.assert_lists_again(evened, asked)


if __name__ == "__main__":
    unittest.main()
