import unittest
from random import Random

from samples import (
    Judge, chain_by_hand, clean, complete, complete_two_sided, drawn_tints, fat_nets, great_fat_nets, great_nets, line,
    most_at_a_point, nets, nets_beyond, ring, several, star, step_by_hand,
)
from tintties.errors import TooFew
from tintties.leads import led
from tintties.tinted import tinted
from tintties.ways import Way


def shifted(tints, by, many):
    """Each tint made a later one, the last ones coming round to the first ones."""
    return tuple((tint + by) % many for tint in tints)


def turned_about(net, tints, many, seed):
    """Some chains turned, whatever their length."""
    source = Random(seed)
    for time in range(len(net[1])):
        tints = step_by_hand(net, tints, ("turn", source.randrange(net[0]), *source.sample(range(many), 2)))
    return tints


class LedTest(Judge):
    def assert_led(self, net, one, other, many):
        self.assertTrue(clean(net, one) and clean(net, other))
        self.assertNotIn(None, one + other)
        steps = led(net, one, other, many)
        self.assertIs(type(steps), list)
        self.assertLessEqual(len(steps), 3 * len(net[1]))
        now = one
        for step in steps:
            self.assert_step(net, step, many)
            self.assertEqual(step[0], "turn")
            self.assertEqual(len(chain_by_hand(net, now, *step[1:])), 1)
            now = self.assert_steps(net, now, [step], many)
        self.assertEqual(now, other)
        if one == other:
            self.assertEqual(steps, [])
        return steps

    def test_drawn(self):
        for seed, net in enumerate(nets() + fat_nets()):
            twice = 2 * most_at_a_point(net)
            for many in (twice, twice + 1, twice + 7):
                one = drawn_tints(net, many, seed)
                other = drawn_tints(net, many, seed + 1000)
                self.assert_led(net, one, other, many)
                self.assert_led(net, other, one, many)
                self.assert_led(net, one, one, many)

    def test_tints_changed_for_one_another(self):
        for seed, net in enumerate(nets() + fat_nets()):
            twice = 2 * most_at_a_point(net)
            if twice:
                one = tinted(net, Way())
                for by in (1, 2, twice // 2, twice - 1):
                    self.assert_led(net, one, shifted(one, by, twice), twice)
                    self.assert_led(net, shifted(one, by, twice), one, twice)
                # As few tints in use as there are ties at a point, or nearly so.
                low = tinted(net)
                need = max(low) + 1
                self.assert_led(net, low, shifted(low, 1, need), max(twice, need))
                self.assert_led(net, low, turned_about(net, low, twice, seed), twice)

    def test_one_tie_apart(self):
        for net in (ring(4), ring(7), star(9), complete(6), several(ring(3), 4), (2, ((0, 1),))):
            twice = 2 * most_at_a_point(net)
            one = drawn_tints(net, twice, 5)
            for tie in range(len(net[1])):
                taken = {
                    one[near] for near, ends in enumerate(net[1]) if set(ends) & set(net[1][tie])
                }
                for tint in set(range(twice)) - taken:
                    other = one[:tie] + (tint,) + one[tie + 1:]
                    self.assertEqual(len(self.assert_led(net, one, other, twice)), 1)

    def test_rings_turned(self):
        for points in (4, 6, 20, 60):
            net = ring(points)
            one = (0, 1) * (points // 2)
            self.assert_led(net, one, one[::-1], 4)
            self.assert_led(net, one, tuple(tint + 2 for tint in one), 4)
        for times in (2, 5, 30):
            net = several((2, ((0, 1),)), times)
            one = tuple(range(times))
            self.assert_led(net, one, one[::-1], 2 * times)
            self.assert_led(net, one, one[1:] + one[:1], 2 * times)
            self.assert_led(net, one, tuple(tint + times for tint in one), 2 * times)

    def test_great(self):
        for seed, net in enumerate(great_nets() + great_fat_nets() + nets_beyond() + [complete_two_sided(14, 14)]):
            twice = 2 * most_at_a_point(net)
            one = drawn_tints(net, twice, seed)
            self.assert_led(net, one, drawn_tints(net, twice, seed + 1), twice)
            self.assert_led(net, one, shifted(one, 1, twice), twice)

    def test_far_above(self):
        for seed, net in enumerate((ring(5), line(9), complete(7), several(ring(3), 5), star(20))):
            one = drawn_tints(net, 1000, seed)
            other = drawn_tints(net, 2 * most_at_a_point(net), seed + 1)
            self.assert_led(net, one, other, 1000)
            self.assert_led(net, other, one, 1000)
            self.assert_led(net, other, drawn_tints(net, 2 * most_at_a_point(net), seed + 2), 1000)

    def test_written_out(self):
        self.assertEqual(self.assert_led((2, ((0, 1),)), (0,), (1,), 2)[0][2:], (0, 1))
        self.assertEqual(len(self.assert_led((2, ((0, 1), (0, 1))), (0, 1), (1, 0), 4)), 3)
        self.assertEqual(len(self.assert_led((4, ((0, 1), (2, 3))), (0, 1), (1, 0), 2)), 2)

    def test_without_ties(self):
        for points in (0, 1, 7, 60):
            for many in (0, 1, 5, 1000):
                self.assertEqual(self.assert_led((points, ()), (), (), many), [])

    def test_too_few(self):
        for seed, net in enumerate((ring(4), ring(5), star(9), complete(6), several(ring(3), 4), (2, ((0, 1),)))):
            twice = 2 * most_at_a_point(net)
            one = drawn_tints(net, twice, seed)
            other = drawn_tints(net, twice, seed + 1)
            for many in sorted({0, 1, twice // 2, twice - 1}):
                for pair in ((one, other), (other, one), (one, one)):
                    self.assert_refused(TooFew, lambda: led(net, *pair, many), {"need": twice})
            high = tuple(tint + 40 for tint in one)
            need = max(high) + 1
            for many in (0, 1, twice - 1, twice, twice + 1, need - 1):
                for pair in ((high, other), (other, high), (high, high)):
                    self.assert_refused(TooFew, lambda: led(net, *pair, many), {"need": need})
            self.assert_led(net, high, other, need)
            self.assert_led(net, other, high, need)
            self.assert_led(net, high, high, need)

    def test_too_few_at_the_edges(self):
        tie = (2, ((0, 1),))
        self.assert_refused(TooFew, lambda: led(tie, (0,), (0,), 1), {"need": 2})
        self.assert_refused(TooFew, lambda: led(tie, (0,), (0,), 0), {"need": 2})
        self.assert_refused(TooFew, lambda: led(tie, (1,), (2,), 2), {"need": 3})
        self.assert_refused(TooFew, lambda: led(tie, (2,), (1,), 2), {"need": 3})
        self.assert_refused(TooFew, lambda: led(tie, (999,), (999,), 999), {"need": 1000})
        self.assertEqual(len(self.assert_led(tie, (999,), (0,), 1000)), 1)
        self.assertEqual(led(tie, (1,), (1,), 2), [])

    def test_asked_again(self):
        asked = []
        for seed, net in enumerate(nets()):
            many = 2 * most_at_a_point(net) + seed % 2
            asked.append((net, drawn_tints(net, many, seed), drawn_tints(net, many, seed + 1), many))
        self.assert_lists_again(led, asked)


if __name__ == "__main__":
    unittest.main()
