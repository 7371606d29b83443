import unittest
from itertools import combinations
from random import Random

from samples import Judge, complete, drawn, drawn_even, great_nets, most_at_a_point, nets, renamed, ring, several, star
from tintties.bounds import bar, bound
from tintties.errors import TooGreat


def bar_by_hand(net, part):
    inside = sum(set(ends) <= set(part) for ends in net[1])
    share = 0
    while share * ((len(part) - 1) // 2) < inside:
        share += 1
    return share


def parts(points):
    return [part for size in range(3, points + 1, 2) for part in combinations(range(points), size)]


def small_nets():
    found = [net for net in nets() if net[0] <= 9]
    found += [complete(points) for points in range(2, 10)] + [ring(points) for points in range(3, 10)]
    found += [several(ring(points), times) for points in range(3, 10) for times in (2, 3, 7)]
    found += [star(9), several(star(4), 5), several((2, ((0, 1),)), 200), several(complete(9), 5), several(ring(3), 66)]
    found += [several(complete(points), 3) for points in (3, 4, 5, 7)]
    found += [drawn(points, ties, ties) for points in (3, 4, 5, 6, 7, 8, 9) for ties in (5, 9, 14, 20, 31, 60, 200)]
    found += [drawn_even(points, crowd, crowd) for points in (3, 5, 7, 9) for crowd in (2, 3, 4, 8, 20)]
    # A full part among points that are tied otherwise, too: at no place in the order of the points.
    for seed, odd in enumerate((3, 5, 7, 3, 5, 7)):
        ties = several(complete(odd), 4)[1] + tuple((odd + place, place) for place in range(9 - odd))
        found.append(renamed((9, ties), seed))
        found.append(renamed((9, several(ring(odd), 4)[1]), seed))
    return found


class BarTest(Judge):
    def assert_bar(self, net, part):
        told = bar(net, part)
        self.assertIs(type(told), int)
        self.assertEqual(told, bar_by_hand(net, part))

    def test_every_part_of_small_nets(self):
        for net in small_nets()[::3]:
            for part in parts(net[0]):
                self.assert_bar(net, part)
                self.assert_bar(net, tuple(Random(len(net[1])).sample(part, len(part))))

    def test_parts_of_great_nets(self):
        for seed, net in enumerate(great_nets() + [complete(20), drawn(12, 200, 3)]):
            for size in (3, 5, 7, 9, 11):
                for time in range(20):
                    self.assert_bar(net, tuple(Random(seed + time).sample(range(net[0]), size)))

    def test_written_out(self):
        self.assertEqual(bar(ring(3), (0, 1, 2)), 3)
        self.assertEqual(bar(ring(3), (2, 0, 1)), 3)
        self.assertEqual(bar(complete(5), (4, 0, 2, 1, 3)), 5)
        self.assertEqual(bar(complete(5), (4, 0, 2)), 3)
        self.assertEqual(bar(ring(5), (0, 1, 2, 3, 4)), 3)
        self.assertEqual(bar(ring(7), (6, 5, 4, 3, 2, 1, 0)), 3)
        self.assertEqual(bar(ring(9), (0, 1, 2)), 2)
        self.assertEqual(bar(ring(9), (0, 1, 3, 4, 6)), 1)
        self.assertEqual(bar(ring(9), (0, 2, 4)), 0)
        self.assertEqual(bar((5, ()), (0, 1, 2, 3, 4)), 0)
        self.assertEqual(bar(complete(9), tuple(range(9))), 9)
        self.assertEqual(bar(several(ring(3), 66), (1, 2, 0)), 198)


class BoundTest(Judge):
    def assert_bound(self, net):
        told = bound(net)
        self.assertIs(type(told), tuple)
        self.assertEqual(len(told), 2)
        number, paper = told
        self.assertIs(type(number), int)
        most = most_at_a_point(net)
        self.assertEqual(number, max([most] + [bar_by_hand(net, part) for part in parts(net[0])]))
        if not net[1]:
            self.assertEqual(told, (0, None))
            return
        self.assertIs(type(paper), tuple)
        self.assertEqual(len(paper), 2)
        if most == number:
            crowds = [sum(point in ends for ends in net[1]) for point in range(net[0])]
            self.assertEqual(paper, ("point", crowds.index(most)))
            self.assertIs(type(paper[1]), int)
        else:
            self.assertEqual(paper[0], "part")
            self.assert_numbers(paper[1])
            self.assertIn(paper[1], parts(net[0]))
            self.assertEqual(bar_by_hand(net, paper[1]), number)

    def test_small_nets(self):
        for net in small_nets():
            self.assert_bound(net)
            self.assert_bound(renamed(net, 4))

    def test_drawn(self):
        for seed in range(150):
            self.assert_bound(drawn(2 + seed % 6, seed % 40, seed))

    def test_written_out(self):
        self.assertEqual(bound(ring(3)), (3, ("part", (0, 1, 2))))
        self.assertEqual(bound(ring(4)), (2, ("point", 0)))
        self.assertEqual(bound(ring(5)), (3, ("part", (0, 1, 2, 3, 4))))
        self.assertEqual(bound(complete(4)), (3, ("point", 0)))
        self.assertEqual(bound((5, ((3, 1), (4, 3), (1, 4), (2, 3)))), (3, ("point", 3)))
        self.assertEqual(bound((5, ((3, 1), (4, 3), (1, 4)))), (3, ("part", (1, 3, 4))))
        self.assertEqual(bound(star(9)), (8, ("point", 0)))
        self.assertEqual(bound((9, ((8, 7), (6, 7)))), (2, ("point", 7)))
        self.assertEqual(bound((2, ((0, 1),))), (1, ("point", 0)))
        self.assertEqual(bound((4, ((2, 3),))), (1, ("point", 2)))
        self.assertEqual(bound(several(ring(3), 5)), (15, ("part", (0, 1, 2))))

    def test_without_ties(self):
        for points in range(10):
            self.assertEqual(bound((points, ())), (0, None))

    def test_too_great(self):
        for points in (10, 11, 12, 59, 60):
            for net in ((points, ()), (points, ((0, 1),)), ring(points), star(points), drawn(points, 200, 1)):
                self.assert_refused(TooGreat, lambda: bound(net), {"most": 9})

    def test_asked_again(self):
        first = [bound(net) for net in small_nets()]
        self.assertEqual([bound(net) for net in reversed(small_nets())][::-1], first)
        for net in small_nets()[:10]:
            rows = parts(net[0])
            told = [bar(net, part) for part in rows]
            self.assertEqual([bar(net, part) for part in reversed(rows)][::-1], told)


if __name__ == "__main__":
    unittest.main()
