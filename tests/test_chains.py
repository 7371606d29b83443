import unittest
from collections import Counter
from itertools import combinations

from samples import (
    Judge, chain_by_hand, clean, complete_two_sided, drawn_tints, great_nets, line, nets, nets_beyond, renamed, ring, star,
)
from tintties.chains import chain, chain_ends, turned
from tintties.tintings import free_tints


def tinted_nets():
    for seed, net in enumerate(nets()):
        for many in (2, 3, 6):
            yield net, drawn_tints(net, many, seed, 0.1), many


def ends_by_hand(net, ties):
    times = Counter(point for tie in ties for point in net[1][tie])
    return tuple(sorted(point for point, many in times.items() if many == 1))


class ChainTest(Judge):
    def assert_chain(self, net, tints, point, one, other):
        ties = chain(net, tints, point, one, other)
        self.assert_numbers(ties)
        expected = chain_by_hand(net, tints, point, one, other)
        self.assertEqual(ties, tuple(sorted(expected)))
        self.assertEqual(chain(net, tints, point, other, one), ties)
        ends = chain_ends(net, tints, point, one, other)
        self.assert_numbers(ends)
        self.assertEqual(ends, ends_by_hand(net, expected))
        self.assertIn(len(ends), (0, 2))
        self.assertEqual(chain_ends(net, tints, point, other, one), ends)

    def test_drawn(self):
        for net, tints, many in tinted_nets():
            for one, other in combinations(range(many + 1), 2):
                for point in range(min(net[0], 10)):
                    self.assert_chain(net, tints, point, one, other)

    def test_great(self):
        for net in great_nets() + nets_beyond() + [complete_two_sided(14, 14)]:
            for many in (2, 3, 14):
                tints = drawn_tints(net, many, 1)
                for point in range(net[0]):
                    self.assert_chain(net, tints, point, 0, 1)
                    self.assert_chain(net, tints, point, many - 1, 0)
                    self.assert_chain(net, tints, point, many, 1)

    def test_one_way(self):
        net = line(60)
        tints = tuple(900 if tie % 2 else 999 for tie in range(59))
        for point in range(60):
            self.assertEqual(chain(net, tints, point, 999, 900), tuple(range(59)))
            self.assertEqual(chain_ends(net, tints, point, 999, 900), (0, 59))
        gap = tints[:20] + (None,) + tints[21:40] + (3,) + tints[41:]
        self.assertEqual(chain(net, gap, 5, 999, 900), tuple(range(20)))
        self.assertEqual(chain(net, gap, 21, 999, 900), tuple(range(21, 40)))
        self.assertEqual(chain(net, gap, 59, 999, 900), tuple(range(41, 59)))
        self.assertEqual(chain_ends(net, gap, 30, 900, 999), (21, 40))
        self.assertEqual(chain(net, gap, 40, 3, 900), (39, 40, 41))

    def test_one_ring(self):
        for points in range(4, 61, 2):
            net = ring(points)
            tints = tuple(tie % 2 for tie in range(points))
            for point in (0, 1, points - 1):
                self.assertEqual(chain(net, tints, point, 0, 1), tuple(range(points)))
                self.assertEqual(chain_ends(net, tints, point, 0, 1), ())
        both = (2, ((0, 1), (1, 0)))
        self.assertEqual(chain(both, (5, 2), 0, 2, 5), (0, 1))
        self.assertEqual(chain_ends(both, (5, 2), 1, 2, 5), ())

    def test_none(self):
        self.assertEqual(chain((1, ()), (), 0, 0, 1), ())
        self.assertEqual(chain_ends((1, ()), (), 0, 0, 1), ())
        net = (4, ((0, 1), (1, 2)))
        self.assertEqual(chain(net, (0, 1), 3, 0, 1), ())
        self.assertEqual(chain(net, (0, 1), 0, 2, 1), ())
        self.assertEqual(chain(net, (None, None), 1, 0, 1), ())
        self.assertEqual(chain_ends(net, (None, None), 1, 0, 1), ())

    def test_one_of_the_tints_on_no_tie(self):
        net = (4, ((0, 1), (1, 2), (3, 2)))
        self.assertEqual(chain(net, (0, 1, 0), 1, 0, 7), (0,))
        self.assertEqual(chain_ends(net, (0, 1, 0), 1, 7, 0), (0, 1))
        self.assertEqual(chain(net, (0, 1, 0), 3, 0, 7), (2,))
        self.assertEqual(chain_ends(net, (0, 1, 0), 3, 999, 0), (2, 3))
        self.assertEqual(chain(star(5), (0, 1, 2, 3), 0, 2, 9), (2,))

    def test_two_ties_alike_apart(self):
        net = (6, ((0, 1), (2, 3), (4, 5), (3, 4)))
        self.assertEqual(chain(net, (0, 0, 0, 1), 0, 0, 1), (0,))
        self.assertEqual(chain(net, (0, 0, 0, 1), 2, 0, 1), (1, 2, 3))
        self.assertEqual(chain_ends(net, (0, 0, 0, 1), 4, 1, 0), (2, 5))


class TurnedTest(Judge):
    def assert_turned(self, net, tints, point, one, other, many):
        ahead = tuple(tints)
        told = turned(net, tints, point, one, other)
        self.assertIs(type(told), tuple)
        self.assertEqual({type(tint) for tint in told} - {int, type(None)}, set())
        ties = chain_by_hand(net, tints, point, one, other)
        for tie, tint in enumerate(told):
            self.assertEqual(tint, one + other - tints[tie] if tie in ties else tints[tie])
        self.assertTrue(clean(net, told))
        self.assertEqual(turned(net, tints, point, other, one), told)
        self.assertEqual(turned(net, told, point, one, other), tints)
        self.assertEqual(turned(net, told, point, other, one), tints)
        ends = ends_by_hand(net, ties)
        for at in range(net[0]):
            same = free_tints(net, tints, at, many + 1) == free_tints(net, told, at, many + 1)
            self.assertEqual(same, at not in ends)
        self.assertEqual(tints, ahead)

    def test_drawn(self):
        for net, tints, many in tinted_nets():
            for one, other in combinations(range(many + 1), 2):
                for point in range(min(net[0], 6)):
                    self.assert_turned(net, tints, point, one, other, many)

    def test_great(self):
        for net in great_nets():
            for many in (3, 14):
                tints = drawn_tints(net, many, 3)
                for point in range(0, 60, 7):
                    self.assert_turned(net, tints, point, 2, 1, many)

    def test_written_out(self):
        net = (5, ((0, 1), (1, 2), (2, 3), (3, 4), (1, 4)))
        tints = (0, 1, 0, None, 999)
        self.assertEqual(turned(net, tints, 2, 0, 1), (1, 0, 1, None, 999))
        self.assertEqual(turned(net, tints, 4, 0, 1), tints)
        self.assertEqual(turned(net, tints, 4, 999, 1), (0, 999, 0, None, 1))
        self.assertEqual(turned(net, tints, 3, 5, 0), (0, 1, 5, None, 999))
        self.assertEqual(turned((2, ((0, 1), (1, 0))), (4, 3), 1, 3, 4), (3, 4))
        self.assertEqual(turned((1, ()), (), 0, 0, 1), ())

    def test_tintings_told_earlier_stay(self):
        net = renamed(complete_two_sided(6, 6), 1)
        tints = drawn_tints(net, 6, 4)
        told = [tints]
        for time in range(60):
            told.append(turned(net, told[-1], time % 12, time % 6, (time + 1 + time // 7 % 5) % 6))
        kept = [list(row) for row in told]
        for time in range(59, -1, -1):
            behind = turned(net, told[time + 1], time % 12, time % 6, (time + 1 + time // 7 % 5) % 6)
            self.assertEqual(behind, told[time])
        self.assertEqual([list(row) for row in told], kept)

    def test_asked_again_behind_others(self):
        asked = [
            (question, (net, tints, point, one, many - 1))
            for net, tints, many in tinted_nets() for point in range(min(net[0], 3)) for one in range(many - 1)
            for question in (chain, chain_ends, turned)
        ]
        first = [question(*given) for question, given in asked]
        behind = [question(*given) for question, given in reversed(asked)]
        self.assertEqual(first, behind[::-1])


if __name__ == "__main__":
    unittest.main()
