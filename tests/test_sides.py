import unittest
from itertools import combinations

from samples import complete, drawn, drawn_two_sided, great_nets, nets, nets_beyond, renamed, ring
from tintties.sides import sides


def least_of_each(net):
    """For each point the least one of all that hang together with it."""
    least = list(range(net[0]))
    changed = True
    while changed:
        changed = False
        for one, other in net[1]:
            lower = min(least[one], least[other])
            if least[one] != lower or least[other] != lower:
                least[one] = least[other] = lower
                changed = True
    return least


def hung_behind(tail, odd, several=1):
    """A way of so many points, and behind its last one a ring; each tie several times, turned about by turns."""
    ties = [(point, point + 1) for point in range(tail)]
    ties += [(tail + place, tail + (place + 1) % odd) for place in range(odd)]
    return (tail + odd, tuple(tie[::-1] if time % 2 else tie for time in range(several) for tie in ties))


class SidesTest(unittest.TestCase):
    def assert_row(self, told, kind):
        self.assertIs(type(told), tuple)
        self.assertEqual(len(told), 2)
        self.assertEqual(told[0], kind)
        self.assertIs(type(told[1]), tuple)
        self.assertEqual({type(thing) for thing in told[1]} - {int}, set())

    def assert_two_sided(self, net):
        told = sides(net)
        self.assert_row(told, "sides")
        row = told[1]
        self.assertEqual(len(row), net[0])
        self.assertEqual(set(row) - {0, 1}, set())
        for one, other in net[1]:
            self.assertNotEqual(row[one], row[other])
        for point in least_of_each(net):
            self.assertEqual(row[point], 0)

    def assert_ring(self, net):
        told = sides(net)
        self.assert_row(told, "ring")
        row = told[1]
        self.assertGreaterEqual(len(row), 3)
        self.assertEqual(len(row) % 2, 1)
        self.assertEqual(len(set(row)), len(row))
        tied = {frozenset(ends) for ends in net[1]}
        for place, point in enumerate(row):
            self.assertIn(point, range(net[0]))
            self.assertIn(frozenset((row[place - 1], point)), tied)

    def assert_told(self, net):
        # What is told proves itself: a row of sides and an odd ring are never both there.
        if sides(net)[0] == "sides":
            self.assert_two_sided(net)
        else:
            self.assert_ring(net)

    def test_without_points_and_of_one(self):
        self.assertEqual(sides((0, ())), ("sides", ()))
        self.assertEqual(sides((1, ())), ("sides", (0,)))
        self.assertEqual(sides((4, ())), ("sides", (0, 0, 0, 0)))
        self.assertEqual(sides((60, ())), ("sides", (0,) * 60))

    def test_written_out(self):
        self.assertEqual(sides((2, ((1, 0),))), ("sides", (0, 1)))
        self.assertEqual(sides((2, ((1, 0), (0, 1)))), ("sides", (0, 1)))
        self.assertEqual(sides((5, ((4, 2), (1, 3)))), ("sides", (0, 0, 0, 1, 1)))
        self.assertEqual(sides((4, ((3, 0), (3, 1), (3, 2)))), ("sides", (0, 0, 0, 1)))
        self.assertEqual(sides((6, ((5, 1), (5, 2), (2, 4)))), ("sides", (0, 0, 0, 0, 1, 1)))
        self.assertEqual(set(sides((3, ((0, 1), (1, 2), (2, 0))))[1]), {0, 1, 2})

    def test_every_plain_net_of_five_points(self):
        pairs = list(combinations(range(5), 2))
        for chosen in range(2 ** len(pairs)):
            ties = tuple(pair for place, pair in enumerate(pairs) if chosen >> place & 1)
            self.assert_told((5, ties))
            self.assert_told(renamed((5, ties), chosen))

    def test_sampled_nets(self):
        for net in nets() + great_nets() + nets_beyond():
            self.assert_told(net)

    def test_two_sided_nets(self):
        for seed in range(60):
            self.assert_two_sided(drawn_two_sided(2 + seed, 3 * seed, seed))
        for points in range(4, 61, 2):
            self.assert_two_sided(ring(points))
            self.assert_two_sided(renamed(ring(points), points))
        self.assert_two_sided(renamed((60, tuple((point, point + 1) for point in range(59))), 1))
        self.assert_two_sided((2, tuple((tie % 2, 1 - tie % 2) for tie in range(200))))

    def test_several_parts(self):
        parts = (60, tuple((point, point + 1) for point in range(59) if point % 4 != 3))
        self.assert_two_sided(parts)
        for seed in range(40):
            self.assert_two_sided(renamed(parts, seed))
            self.assert_told(drawn(40, 18, seed))

    def test_rings(self):
        for points in range(3, 61, 2):
            self.assert_ring(ring(points))
            self.assert_ring(renamed(ring(points), points))
            self.assertEqual(sorted(sides(renamed(ring(points), points))[1]), list(range(points)))

    def test_rings_behind_other_points(self):
        for odd in (3, 5, 7, 29):
            for tail in (0, 1, 2, 7, 30):
                for several in (1, 2, 3):
                    net = hung_behind(tail, odd, several)
                    for asked in [net] + [renamed(net, seed) for seed in range(3)]:
                        self.assert_ring(asked)
                        self.assertEqual(len(sides(asked)[1]), odd)

    def test_ring_in_a_later_part(self):
        ties = ring(40)[1] + tuple((41 + one, 41 + other) for one, other in ring(5)[1])
        self.assert_ring((60, ties))
        for seed in range(20):
            self.assert_ring(renamed((60, ties), seed))

    def test_full_of_rings(self):
        for points in range(3, 21):
            self.assert_ring(complete(points))
            self.assert_ring(renamed(complete(points), points))

    def test_asked_again_behind_others(self):
        asked = nets() + great_nets()
        first = [sides(net) for net in asked]
        behind = [sides(net) for net in reversed(asked)]
        self.assertEqual(first, behind[::-1])


if __name__ == "__main__":
    unittest.main()
