import unittest
from itertools import product
from random import Random

from samples import (
    Judge, clean, complete, complete_two_sided, drawn, drawn_even, drawn_plain, line, most_at_a_point, renamed, ring,
    several, star,
)
from tintties.bounds import bound
from tintties.cases import fewest, search
from tintties.errors import TooGreat

# The ten points of a well-known net, three ties at each, without one of them: more tints than the bound.
NINE = (9, ((0, 1), (1, 2), (2, 3), (3, 4), (4, 0), (0, 5), (1, 6), (2, 7), (3, 8), (5, 7), (6, 8), (8, 5)))


class Enough(Exception):
    pass


class ByHand:
    """A search as the document tells it, each tinting looked at from scratch; given up behind so many."""

    def __init__(self, net, many, barred, limit):
        self.net, self.many, self.barred, self.limit = net, many, barred, limit
        self.looked = 0

    def left(self, tints, tie):
        taken = {
            tints[other] for other, ends in enumerate(self.net[1]) if set(ends) & set(self.net[1][tie])
        }
        barred = () if self.barred is None else self.barred[tie]
        return [tint for tint in range(self.many) if tint not in taken and tint not in barred]

    def look(self, tints):
        self.looked += 1
        if self.looked > self.limit:
            raise Enough()
        bare = [tie for tie, tint in enumerate(tints) if tint is None]
        if not bare:
            return ("tints", tuple(tints))
        left = {tie: self.left(tints, tie) for tie in bare}
        tie = min(bare, key=lambda one: (len(left[one]), one))
        if not left[tie]:
            return ("cases", ("stuck", tie))
        branches = []
        for tint in left[tie]:
            told = self.look(tints[:tie] + [tint] + tints[tie + 1:])
            if told[0] == "tints":
                return told
            branches.append((tint, told[1]))
        return ("cases", ("tie", tie, tuple(branches)))

    def told(self):
        return self.look([None] * len(self.net[1]))


def by_hand(net, many, barred=None, limit=400):
    """What the search tells, and how many tintings it looks at; None, where there are more than the limit."""
    hand = ByHand(net, many, barred, limit)
    try:
        told = hand.told()
    except Enough:
        return None
    return told, hand.looked


def drawn_bars(net, many, seed, share):
    source = Random(seed)
    return tuple(
        tuple(source.sample([tint for tint in range(many) if source.random() < share] + [many, 999, many], 3)
              if source.random() < share else [tint for tint in range(many) if source.random() < share])
        for tie in net[1]
    )


def bars_of_fewest(net, many):
    crowds = [sum(point in ends for ends in net[1]) for point in range(net[0])]
    point = crowds.index(max(crowds))
    at = [tie for tie, ends in enumerate(net[1]) if point in ends]
    return tuple(
        tuple(tint for tint in range(many) if tint != at.index(tie)) if tie in at else () for tie in range(len(net[1]))
    )


def has_tinting(net, many):
    """By going over all tints for each tie: only for a few ties."""
    return any(clean(net, tints) for tints in product(range(many), repeat=len(net[1])))


def answer_or_refusal(net):
    try:
        return fewest(net)
    except TooGreat as error:
        return vars(error)


def small_nets():
    found = [
        (0, ()), (1, ()), (9, ()), (2, ((0, 1),)), (2, ((1, 0),)), (4, ((2, 3),)), (9, ((8, 7), (6, 7))), NINE,
        renamed(NINE, 1), several((2, ((0, 1),)), 5), several((2, ((0, 1),)), 40), star(6), star(9), line(9),
        several(star(4), 3), several(line(4), 2), complete_two_sided(3, 3), renamed(complete_two_sided(4, 4), 2),
    ]
    found += [complete(points) for points in range(2, 8)] + [ring(points) for points in range(3, 10)]
    found += [several(ring(3), times) for times in (2, 3, 4, 8)] + [several(ring(5), 2), several(ring(4), 3)]
    for seed in range(24):
        points = 3 + seed % 7
        found.append(drawn(points, seed, seed))
        found.append(drawn_plain(points, min(seed, points * (points - 1) // 2), seed))
        found.append(drawn_even(points, 3, seed))
    return [net for net in found if len(net[1]) <= 40]


class SearchJudge(Judge):
    def assert_case(self, case, ties):
        """Of the kinds that the document tells, all the way down."""
        self.assertIs(type(case), tuple)
        self.assertIn(case[0], ("stuck", "tie"))
        self.assertIs(type(case[1]), int)
        self.assertIn(case[1], range(ties))
        if case[0] == "stuck":
            self.assertEqual(len(case), 2)
            return
        self.assertEqual(len(case), 3)
        self.assertIs(type(case[2]), tuple)
        self.assertTrue(case[2])
        for branch in case[2]:
            self.assertIs(type(branch), tuple)
            self.assertEqual(len(branch), 2)
            self.assertIs(type(branch[0]), int)
            self.assert_case(branch[1], ties)
        tints = [tint for tint, rest in case[2]]
        self.assertEqual(tints, sorted(set(tints)))


class SearchTest(SearchJudge):
    def assert_search(self, net, many, barred=None, limit=400):
        """Told is what the search tells, or None where it looks at more than the limit."""
        hand = by_hand(net, many, barred, limit)
        if hand is None:
            self.assert_refused(TooGreat, lambda: search(net, many, barred, limit), {"most": limit})
            return None
        told, looked = hand
        for most in (looked, looked + 1, 1000000):
            self.assertEqual(search(net, many, barred, most), told)
        for most in {looked - 1, looked // 2, 1, 0} & set(range(looked)):
            self.assert_refused(TooGreat, lambda: search(net, many, barred, most), {"most": most})
        if looked <= 300:
            self.assertEqual(search(net, many, barred), told)
        else:
            self.assert_refused(TooGreat, lambda: search(net, many, barred), {"most": 300})
        self.assertIs(type(told), tuple)
        if told[0] == "tints":
            self.assert_numbers(search(net, many, barred, looked)[1])
            self.assertTrue(clean(net, told[1]))
        else:
            self.assert_case(search(net, many, barred, looked)[1], len(net[1]))
        return told

    def test_tints_around_the_most(self):
        kinds = set()
        for net in small_nets():
            most = most_at_a_point(net)
            for many in sorted({0, 1, most - 2, most - 1, most, most + 1, 2 * most, most + 30} & set(range(200))):
                told = self.assert_search(net, many)
                kinds.add(None if told is None else (told[0], told[1][0] if told[0] == "cases" else None))
                if told is not None and many < most:
                    self.assertEqual(told[0], "cases")
        self.assertEqual(kinds, {None, ("tints", None), ("cases", "stuck"), ("cases", "tie")})

    def test_barred(self):
        for seed, net in enumerate(small_nets()):
            most = most_at_a_point(net)
            for many in (most, most + 1, most + 4):
                for share in (0.1, 0.3, 0.6):
                    self.assert_search(net, many, drawn_bars(net, many, seed, share))

    def test_nothing_barred(self):
        for net in small_nets()[::2]:
            many = most_at_a_point(net) + 1
            nothing = tuple(() for tie in net[1])
            beyond = tuple((many, many + 7, 999, many) for tie in net[1])
            told = by_hand(net, many)
            for barred in (nothing, beyond):
                self.assertEqual(by_hand(net, many, barred), told)
                self.assert_search(net, many, barred)

    def test_barred_twice_and_in_any_order(self):
        for seed, net in enumerate(small_nets()[::2]):
            many = most_at_a_point(net) + 2
            barred = drawn_bars(net, many, seed, 0.3)
            told = self.assert_search(net, many, barred)
            if told is not None:
                for other in (
                    tuple(row + row for row in barred), tuple(row[::-1] for row in barred),
                    tuple((many, 999) + row + (many,) for row in barred),
                ):
                    self.assertEqual(search(net, many, other, 400), told)

    def test_all_tints_of_a_tie_barred(self):
        for net in small_nets():
            for tie in {0, len(net[1]) // 2, len(net[1]) - 1} & set(range(len(net[1]))):
                many = most_at_a_point(net) + 1
                barred = tuple(tuple(range(many)) if other == tie else () for other in range(len(net[1])))
                self.assertEqual(search(net, many, barred, 1), ("cases", ("stuck", tie)))
                self.assert_refused(TooGreat, lambda: search(net, many, barred, 0), {"most": 0})

    def test_written_out(self):
        self.assertEqual(search((0, ()), 0), ("tints", ()))
        self.assertEqual(search((5, ()), 3, None, 1), ("tints", ()))
        self.assertEqual(search((5, ()), 3, (), 1), ("tints", ()))
        self.assertEqual(search(ring(3), 0), ("cases", ("stuck", 0)))
        self.assertEqual(search(ring(3), 1), ("cases", ("tie", 0, ((0, ("stuck", 1)),))))
        self.assertEqual(search(ring(3), 3), ("tints", (0, 1, 2)))
        self.assertEqual(
            search(ring(3), 2),
            ("cases", ("tie", 0, (
                (0, ("tie", 1, ((1, ("stuck", 2)),))),
                (1, ("tie", 1, ((0, ("stuck", 2)),))),
            ))),
        )
        self.assertEqual(search(ring(4), 2), ("tints", (0, 1, 0, 1)))
        self.assertEqual(search(several((2, ((0, 1),)), 3), 3), ("tints", (0, 1, 2)))
        # The third tie goes first, as just 2 is left to it; then two tints are left to each of the others.
        self.assertEqual(search(line(4), 3, ((1,), (), (0, 1)), 4), ("tints", (0, 1, 2)))
        self.assertEqual(search(line(4), 3, ((1, 2), (0,), (0, 1)), 4), ("tints", (0, 1, 2)))
        self.assertEqual(
            search(line(3), 2, ((0,), (0,))), ("cases", ("tie", 0, ((1, ("stuck", 1)),))),
        )
        self.assertEqual(search((4, ((0, 1), (2, 3))), 1000, (tuple(range(999)), ())), ("tints", (999, 0)))

    def test_every_looked_at_tinting_counts(self):
        # The first one, one for each tie, the last one among them.
        for net in (star(5), star(41), line(12), several((2, ((0, 1),)), 40)):
            ties = len(net[1])
            many = most_at_a_point(net)
            self.assertEqual(search(net, many, None, ties + 1)[0], "tints")
            self.assert_refused(TooGreat, lambda: search(net, many, None, ties), {"most": ties})
        self.assertEqual(search((3, ()), 0, None, 1), ("tints", ()))
        self.assert_refused(TooGreat, lambda: search((3, ()), 0, None, 0), {"most": 0})
        self.assert_refused(TooGreat, lambda: search(ring(3), 2, None, 4), {"most": 4})
        self.assertEqual(search(ring(3), 2, None, 5)[0], "cases")

    def test_more_than_forty_ties(self):
        forty = several((2, ((0, 1),)), 40)
        self.assertEqual(search(forty, 0), ("cases", ("stuck", 0)))
        self.assertEqual(search(forty, 40), ("tints", tuple(range(40))))
        for net in (several((2, ((0, 1),)), 41), star(42), ring(41), drawn(60, 200, 1), complete(10), line(60)):
            for most in (0, 1, 300, 1000000):
                for many in (0, 1, 1000):
                    for barred in (None, tuple((0,) for tie in net[1])):
                        self.assert_refused(TooGreat, lambda: search(net, many, barred, most), {"most": 40})

    def test_many_points_and_many_tints(self):
        self.assertEqual(search((60, ((58, 59), (0, 59))), 2), ("tints", (0, 1)))
        self.assertEqual(search(ring(40), 2), ("tints", (0, 1) * 20))
        self.assertEqual(search(star(41), 1000), ("tints", tuple(range(40))))
        self.assertEqual(search((70, ((69, 0),)), 1), ("tints", (0,)))

    def test_long_searches(self):
        self.assert_search(NINE, 3, None, 5000)
        self.assert_search(complete(5), 4, None, 5000)
        self.assert_search(renamed(several(ring(3), 3), 1), 8, None, 500)

    def test_asked_again(self):
        asked = [(net, most_at_a_point(net) - seed % 2, None, 400) for seed, net in enumerate(small_nets()) if net[1]]
        asked += [
            (net, most_at_a_point(net) + 1, drawn_bars(net, most_at_a_point(net) + 1, 3, 0.3), 400)
            for net in small_nets()
        ]
        asked = [question for question in asked if by_hand(*question) is not None]
        first = [search(*question) for question in asked]
        for question in asked[::3]:
            self.assert_refused(TooGreat, lambda: search(*question[:3], 0), {"most": 0})
        self.assertEqual([search(*question) for question in reversed(asked)][::-1], first)


class FewestTest(SearchJudge):
    def assert_fewest(self, net, limit=400):
        """By the searches that the document asks for, done by hand; told is the answer, or None."""
        lowest, paper = bound(net)
        number = lowest
        looked = 0
        hand = by_hand(net, number, bars_of_fewest(net, number), limit)
        while hand is not None and hand[0][0] == "cases":
            looked = max(looked, hand[1])
            paper = hand[0]
            number += 1
            hand = by_hand(net, number, bars_of_fewest(net, number), limit)
        if hand is None:
            self.assert_refused(TooGreat, lambda: fewest(net, limit), {"most": limit})
            return None
        looked = max(looked, hand[1])
        told = fewest(net, looked)
        self.assertEqual(told, (number, hand[0][1], paper))
        self.assertEqual(fewest(net, 1000000), told)
        for most in {looked - 1, looked // 2, 1, 0} & set(range(looked)):
            self.assert_refused(TooGreat, lambda: fewest(net, most), {"most": most})
        if looked <= 300:
            self.assertEqual(fewest(net), told)
        else:
            self.assert_refused(TooGreat, lambda: fewest(net), {"most": 300})
        self.assertIs(type(told), tuple)
        self.assertIs(type(told[0]), int)
        self.assert_numbers(told[1])
        self.assertTrue(clean(net, told[1]))
        self.assertTrue(all(0 <= tint < number for tint in told[1]))
        if number > lowest:
            self.assertEqual(told[2][0], "cases")
            self.assertEqual(len(told[2]), 2)
            self.assert_case(told[2][1], len(net[1]))
        else:
            self.assertEqual(told[2], bound(net)[1])
        return told

    def test_small_nets(self):
        refused = 0
        for net in small_nets():
            if net[1]:
                refused += self.assert_fewest(net) is None
        self.assertLess(refused, 10)

    def test_none_of_fewer(self):
        nets = [net for net in small_nets() if 0 < len(net[1]) <= 7]
        nets += [drawn(4, 6, seed) for seed in range(40)] + [drawn(5, 7, seed) for seed in range(20)]
        for net in nets:
            number = self.assert_fewest(net)[0]
            if number ** len(net[1]) <= 20000:
                self.assertTrue(has_tinting(net, number))
                self.assertFalse(has_tinting(net, number - 1))

    def test_above_the_bound(self):
        for net in [NINE] + [renamed(NINE, seed) for seed in range(12)]:
            told = self.assert_fewest(net)
            self.assertEqual(bound(net)[0], 3)
            self.assertEqual(told[0], 4)
            self.assertEqual(told[2], search(net, 3, bars_of_fewest(net, 3)))
            # Called otherwise, the ties at the point could have had any tints: without bars there is none, either.
            self.assertEqual(search(net, 3, None, 100000)[0], "cases")

    def test_written_out(self):
        self.assertEqual(fewest((2, ((0, 1),))), (1, (0,), ("point", 0)))
        self.assertEqual(fewest((4, ((3, 2),)), 2), (1, (0,), ("point", 2)))
        self.assertEqual(fewest(several((2, ((0, 1),)), 4)), (4, (0, 1, 2, 3), ("point", 0)))
        self.assertEqual(fewest(star(9)), (8, tuple(range(8)), ("point", 0)))
        self.assertEqual(fewest(ring(4)), (2, (0, 1, 0, 1), ("point", 0)))
        # Ties 0 and 2 are at point 0.
        self.assertEqual(fewest(ring(3)), (3, (0, 2, 1), ("part", (0, 1, 2))))
        # The first point whose crowd is the most is 1, at which are ties 0 and 2.
        self.assertEqual(fewest((4, ((2, 1), (0, 3), (3, 1)))), (2, (0, 0, 1), ("point", 1)))
        self.assertEqual(fewest(complete(5), 30)[0], 5)
        self.assertEqual(fewest(complete(6), 30)[0], 5)

    def test_without_ties(self):
        for points in range(10):
            for most in (0, 1, 300):
                self.assertEqual(fewest((points, ()), most), (0, (), None))
            self.assertEqual(fewest((points, ())), (0, (), None))

    def test_too_great(self):
        for points in (10, 11, 60):
            for net in ((points, ()), (points, ((0, 1),)), star(points), drawn(points, 200, 1), drawn(points, 41, 1)):
                for most in (0, 1, 300, 1000000):
                    self.assert_refused(TooGreat, lambda: fewest(net, most), {"most": 9})
        for net in (several((2, ((0, 1),)), 41), drawn(9, 41, 1), several(complete(9), 5), several(ring(3), 66)):
            for most in (0, 1, 300, 1000000):
                self.assert_refused(TooGreat, lambda: fewest(net, most), {"most": 40})
        self.assertEqual(fewest(several((2, ((0, 1),)), 40), 41)[0], 40)
        self.assert_refused(TooGreat, lambda: fewest(several((2, ((0, 1),)), 40), 40), {"most": 40})
        self.assert_refused(TooGreat, lambda: fewest(several((2, ((0, 1),)), 39), 39), {"most": 39})

    def test_the_greatest_of_the_searches_counts_alone(self):
        # For NINE the search for 3 and the search for 4 look at unlike many: each of them has all of most.
        first = by_hand(NINE, 3, bars_of_fewest(NINE, 3))[1]
        second = by_hand(NINE, 4, bars_of_fewest(NINE, 4))[1]
        self.assertEqual(fewest(NINE, max(first, second))[0], 4)
        self.assert_refused(TooGreat, lambda: fewest(NINE, max(first, second) - 1), {"most": max(first, second) - 1})

    def test_most_left_out(self):
        # Two nets in which the longest search looks at just 300 tintings, and at just 301.
        for seed, longest in ((6579, 300), (8529, 301)):
            net = drawn_even(9, 8, seed)
            told = self.assert_fewest(net)
            self.assertEqual(fewest(net, longest), told)
            self.assert_refused(TooGreat, lambda: fewest(net, longest - 1), {"most": longest - 1})
        self.assert_refused(TooGreat, lambda: fewest(net), {"most": 300})

    def test_asked_again(self):
        first = [answer_or_refusal(net) for net in small_nets()]
        self.assertEqual([answer_or_refusal(net) for net in reversed(small_nets())][::-1], first)


if __name__ == "__main__":
    unittest.main()
