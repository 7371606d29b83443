import unittest
from collections import Counter

from samples import (
    Judge, complete, complete_two_sided, drawn_even_two_sided, great_two_sided_nets, line, most_at_a_point, odd_nets,
    renamed, ring, several, star, two_sided_nets,
)
from tintties.errors import NotAlike, NotTwoSided
from tintties.meets import all_meet, rounds


def crowds(net):
    times = Counter(point for ends in net[1] for point in ends)
    return [times[point] for point in range(net[0])]


def even_nets():
    """Of two sides, with as many ties at each point."""
    found = [complete_two_sided(half, half) for half in range(1, 8)]
    found += [renamed(several(complete_two_sided(half, half), 3), half) for half in range(1, 6)]
    found += [ring(4), ring(60), renamed(ring(20), 1), several(ring(6), 5), several((2, ((0, 1),)), 9)]
    found += [(6, ((0, 3), (1, 4), (5, 2))), (8, ring(4)[1] + tuple((4 + one, 4 + other) for one, other in ring(4)[1]))]
    for half in (2, 3, 5, 9):
        for crowd in (1, 2, 3, 6):
            found.append(renamed(drawn_even_two_sided(half, crowd, half + crowd), crowd))
    return found


def great_even_nets():
    return [
        complete_two_sided(14, 14), several((2, ((0, 1),)), 200), several(complete_two_sided(5, 5), 8),
        renamed(drawn_even_two_sided(30, 6, 1), 2), renamed(drawn_even_two_sided(33, 6, 1), 2),
    ]


def uneven_nets():
    found = [net for net in two_sided_nets() + great_two_sided_nets() if len(set(crowds(net))) > 1]
    for net in even_nets():
        # One tie more at two points of both sides, and a point to which none goes.
        if net[0] > 2:
            found.append((net[0], net[1] + (net[1][0],)))
            found.append((net[0], net[1][1:] + (net[1][-1],) if len(net[1]) > 2 else net[1][1:]))
        found.append((net[0] + 1, net[1]))
    return [net for net in found if len(set(crowds(net))) > 1]


class RoundsTest(Judge):
    def assert_rounds(self, net):
        told = rounds(net)
        self.assertIs(type(told), tuple)
        self.assertEqual(len(told), most_at_a_point(net))
        for row in told:
            self.assert_numbers(row)
            self.assertEqual(list(row), sorted(row))
            self.assertEqual(sorted(point for tie in row for point in net[1][tie]), list(range(net[0])))
        self.assertEqual(sorted(tie for row in told for tie in row), list(range(len(net[1]))))

    def test_even_nets(self):
        for net in even_nets() + great_even_nets():
            self.assert_rounds(net)
            self.assert_rounds(renamed(net, 7))

    def test_written_out(self):
        self.assertEqual(rounds((2, ((0, 1),))), ((0,),))
        self.assertEqual(rounds((4, ((0, 1), (3, 2)))), ((0, 1),))
        self.assertEqual(sorted(rounds((2, ((0, 1), (1, 0), (0, 1))))), [(0,), (1,), (2,)])
        self.assertEqual(sorted(rounds(ring(4))), [(0, 2), (1, 3)])

    def test_without_ties(self):
        for points in (0, 1, 2, 60):
            self.assertEqual(rounds((points, ())), ())

    def test_not_alike(self):
        self.assertGreater(len(uneven_nets()), 40)
        for net in uneven_nets() + [line(3), star(4), (3, ((0, 1),)), (60, ((58, 59),)), complete_two_sided(3, 4)]:
            self.assert_refused(NotAlike, lambda: rounds(net), {})
            self.assert_refused(NotAlike, lambda: rounds(renamed(net, 3)), {})

    def test_not_two_sided_ahead_of_not_alike(self):
        for net in odd_nets() + [(9, complete(5)[1]), (4, ring(3)[1] + ((0, 3),)), ring(3), several(ring(5), 4)]:
            self.assert_odd_ring(net, self.assert_refused(NotTwoSided, lambda: rounds(net)))

    def test_asked_again(self):
        first = [rounds(net) for net in even_nets()]
        self.assertEqual([rounds(net) for net in reversed(even_nets())][::-1], first)


class AllMeetTest(Judge):
    def assert_all_meet(self, net):
        told = all_meet(net)
        self.assert_numbers(told)
        self.assertEqual(list(told), sorted(told))
        for tie in told:
            self.assertIn(tie, range(len(net[1])))
        met = [point for tie in told for point in net[1][tie]]
        self.assertEqual(len(set(met)), len(met))
        if net[1]:
            most = most_at_a_point(net)
            self.assertEqual([point for point, crowd in enumerate(crowds(net)) if crowd == most and point not in met], [])

    def test_two_sided_nets(self):
        for net in two_sided_nets() + great_two_sided_nets() + even_nets() + great_even_nets() + uneven_nets():
            self.assert_all_meet(net)
            self.assert_all_meet(renamed(net, 5))

    def test_written_out(self):
        self.assertEqual(all_meet((2, ((1, 0),))), (0,))
        self.assertEqual(all_meet((4, ((0, 1), (3, 2)))), (0, 1))
        self.assertEqual(len(all_meet(star(9))), 1)
        self.assertIn(all_meet((4, ((0, 1), (1, 2), (2, 3), (1, 2)))), ((0, 2), (1,), (3,)))
        self.assertIn(all_meet((3, ((0, 1), (1, 2)))), ((0,), (1,)))

    def test_without_ties(self):
        for points in (0, 1, 2, 60):
            self.assertEqual(all_meet((points, ())), ())

    def test_points_without_ties(self):
        for net in even_nets()[:12]:
            self.assert_all_meet((net[0] + 2, net[1]))
            self.assert_all_meet(renamed((net[0] + 5, net[1]), 1))

    def test_not_two_sided(self):
        for net in odd_nets() + [(9, complete(5)[1]), (4, ring(3)[1] + ((0, 3),)), ring(3), several(ring(5), 4)]:
            self.assert_odd_ring(net, self.assert_refused(NotTwoSided, lambda: all_meet(net)))

    def test_asked_again(self):
        first = [all_meet(net) for net in two_sided_nets()]
        self.assertEqual([all_meet(net) for net in reversed(two_sided_nets())][::-1], first)


if __name__ == "__main__":
    unittest.main()
