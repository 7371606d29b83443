import unittest
from random import Random

from samples import (
    NO_NUMBERS, Judge, LikeAll, clean, complete, complete_two_sided, drawn_tints, great_nets, nets, ring, star, step_by_hand,
)
from tintties.errors import NoStep, NotClean
from tintties.steps import done, walked

NET = (4, ((0, 1), (1, 2), (2, 3), (3, 0), (1, 0)))
TINTS = (0, 1, 0, None, 2)
GOOD = (("turn", 0, 0, 1), ("turn", 3, 999, 5), ("tint", 3, 4), ("tint", 0, 999), ("bare", 0), ("bare", 3))
WORDS = ("", "Turn", "TINT", "bare ", "tinted", "turns", "b", "bar", "untint", "put")


def no_steps_of(net):
    """Things that are no step of a net, the good places around the wrong one."""
    points = net[0]
    ties = len(net[1])
    no_points = (-1, -points, points, points + 1, 10 ** 30) + NO_NUMBERS
    no_ties = (-1, -ties, ties, ties + 1, 10 ** 30) + NO_NUMBERS
    no_tints = (-1, 1000, 1001, 10 ** 30) + NO_NUMBERS
    for thing in no_points:
        yield ("turn", thing, 0, 1)
    for thing in no_tints:
        yield ("turn", 0, thing, 1)
        yield ("turn", 0, 0, thing)
        yield ("turn", 0, thing, thing)
        yield ("tint", 0, thing)
    for thing in no_ties:
        yield ("tint", thing, 7)
        yield ("bare", thing)
    for tint in (0, 1, 7, 999):
        yield ("turn", 0, tint, tint)
    for good in GOOD:
        yield list(good)
        yield good[:-1]
        yield good[1:]
        yield good + (0,)
        yield good + (None,)
        yield good[::-1]
        yield (good,)
        yield [good]
        yield {good}
        yield dict([good[:2]])
        yield iter(good)
        for word in WORDS + NO_NUMBERS + (good[0].encode(), list(good[0]), tuple(good[0]), 0, 1):
            yield (word,) + good[1:]
    yield ("turn", 0, 7)
    yield ("turn", 0)
    yield ("tint", 0)
    yield ("tint", 0, 7, 8)
    yield ("bare", 0, 7)
    yield ("bare", 0, None)
    yield ("tint", 0, None)
    yield ("turn",)
    yield ("tint",)
    yield ("bare",)
    yield from ("turn", "tint", "bare", 0, 1, -1, 3, net, TINTS)
    yield from NO_NUMBERS


class DoneTest(Judge):
    def assert_done(self, net, tints, step):
        ahead = tuple(tints)
        expected = step_by_hand(net, tints, step)
        if clean(net, expected):
            told = done(net, tints, step)
            self.assertIs(type(told), tuple)
            self.assertEqual(told, expected)
            self.assertEqual({type(tint) for tint in told} - {int, type(None)}, set())
        else:
            self.assert_refused(NotClean, lambda: done(net, tints, step), {})
        self.assertEqual(tints, ahead)

    def test_every_step_of_small_nets(self):
        for net in (NET, ring(3), star(4), (2, ((0, 1), (1, 0))), (4, ((0, 1), (2, 3)))):
            for seed in range(6):
                tints = drawn_tints(net, 4, seed, 0.2)
                for tie in range(len(net[1])):
                    self.assert_done(net, tints, ("bare", tie))
                    for tint in (0, 1, 2, 3, 4, 999):
                        self.assert_done(net, tints, ("tint", tie, tint))
                for point in range(net[0]):
                    for one in range(5):
                        for other in (0, 1, 2, 3, 999):
                            if one != other:
                                self.assert_done(net, tints, ("turn", point, one, other))

    def test_drawn(self):
        for seed, net in enumerate(nets() + great_nets()):
            source = Random(seed)
            tints = drawn_tints(net, 8, seed, 0.2)
            for time in range(10 if net[1] else 0):
                tie = source.randrange(len(net[1]))
                self.assert_done(net, tints, ("bare", tie))
                self.assert_done(net, tints, ("tint", tie, source.randrange(9)))
                self.assert_done(net, tints, ("turn", net[1][tie][0], *source.sample(range(9), 2)))

    def test_written_out(self):
        self.assertEqual(done(NET, TINTS, ("turn", 0, 0, 1)), (1, 0, 1, None, 2))
        self.assertEqual(done(NET, TINTS, ("turn", 3, 0, 7)), (0, 1, 7, None, 2))
        self.assertEqual(done(NET, TINTS, ("tint", 3, 1)), (0, 1, 0, 1, 2))
        self.assertEqual(done(NET, TINTS, ("tint", 3, 999)), (0, 1, 0, 999, 2))
        self.assertEqual(done(NET, TINTS, ("bare", 4)), (0, 1, 0, None, None))

    def test_a_tie_with_a_tint_given_another_one(self):
        self.assertEqual(done(NET, TINTS, ("tint", 0, 3)), (3, 1, 0, None, 2))
        self.assertEqual(done(NET, TINTS, ("tint", 0, 0)), TINTS)
        self.assertEqual(done(NET, TINTS, ("tint", 2, 2)), (0, 1, 2, None, 2))

    def test_a_bare_tie_made_bare(self):
        self.assertEqual(done(NET, TINTS, ("bare", 3)), TINTS)

    def test_a_turn_of_a_chain_without_ties(self):
        self.assertEqual(done(NET, TINTS, ("turn", 3, 1, 2)), TINTS)
        self.assertEqual(done(NET, TINTS, ("turn", 0, 998, 999)), TINTS)
        self.assertEqual(done((1, ()), (), ("turn", 0, 0, 1)), ())

    def test_not_clean(self):
        for step in (("tint", 3, 0), ("tint", 3, 2), ("tint", 0, 1), ("tint", 0, 2), ("tint", 4, 0), ("tint", 1, 0)):
            self.assert_refused(NotClean, lambda: done(NET, TINTS, step), {})
        for net in (complete(6), complete_two_sided(4, 4)):
            tints = drawn_tints(net, 999, 2)
            for one, ends in enumerate(net[1]):
                for other, meets in enumerate(net[1]):
                    step = ("tint", one, tints[other])
                    if one != other and set(ends) & set(meets):
                        self.assert_refused(NotClean, lambda: done(net, tints, step), {})

    def test_no_step(self):
        for thing in no_steps_of(NET):
            with self.subTest(thing=thing):
                self.assert_refused(NoStep, lambda: done(NET, TINTS, thing), {})

    def test_no_step_of_a_net_without_points_or_ties(self):
        for step in (("turn", 0, 0, 1), ("tint", 0, 0), ("bare", 0)):
            self.assert_refused(NoStep, lambda: done((0, ()), (), step), {})
        for step in (("turn", 1, 0, 1), ("tint", 0, 0), ("bare", 0)):
            self.assert_refused(NoStep, lambda: done((1, ()), (), step), {})

    def test_a_tie_is_no_point(self):
        many_ties = (2, ((0, 1),) * 5)
        self.assert_refused(NoStep, lambda: done(many_ties, (None,) * 5, ("turn", 4, 0, 1)), {})
        self.assertEqual(done(many_ties, (None,) * 5, ("tint", 4, 1)), (None,) * 4 + (1,))
        self.assert_refused(NoStep, lambda: done((5, ((0, 1),)), (None,), ("tint", 4, 1)), {})
        self.assert_refused(NoStep, lambda: done((5, ((0, 1),)), (None,), ("bare", 4)), {})
        self.assertEqual(done((5, ((0, 1),)), (None,), ("turn", 4, 1, 0)), (None,))

    def test_what_is_like_all_is_no_word(self):
        for rest in ((0, 0, 1), (3, 5), (0,)):
            self.assert_refused(NoStep, lambda: done(NET, TINTS, (LikeAll(),) + rest), {})

    def test_done_again_behind_others(self):
        asked = [GOOD[time % len(GOOD)] for time in range(30)]
        first = [done(NET, TINTS, step) for step in asked]
        self.assert_refused(NotClean, lambda: done(NET, TINTS, ("tint", 3, 0)), {})
        self.assert_refused(NoStep, lambda: done(NET, TINTS, ("tint", 3, True)), {})
        self.assertEqual([done(NET, TINTS, step) for step in reversed(asked)][::-1], first)


class WalkedTest(Judge):
    def drawn_steps(self, net, tints, seed):
        """Steps that are not refused, and the tintings behind them."""
        source = Random(seed)
        steps = []
        behind = []
        for time in range(40):
            tie = source.randrange(len(net[1]))
            step = source.choice((
                ("bare", tie),
                ("tint", tie, source.randrange(12)),
                ("turn", source.randrange(net[0]), *source.sample(range(12), 2)),
            ))
            after = step_by_hand(net, tints, step)
            if clean(net, after):
                tints = after
                steps.append(step)
                behind.append(after)
        return steps, behind

    def test_drawn(self):
        for seed, net in enumerate(nets() + great_nets()):
            if net[1]:
                tints = drawn_tints(net, 12, seed, 0.2)
                steps, behind = self.drawn_steps(net, tints, seed)
                for given in (list(steps), tuple(steps)):
                    told = walked(net, tints, given)
                    self.assertIs(type(told), list)
                    self.assertEqual(told, behind)
                    self.assertEqual({type(row) for row in told} - {tuple}, set())
                    self.assertEqual(list(given), steps)

    def test_written_out(self):
        steps = [("tint", 3, 1), ("turn", 0, 0, 1), ("bare", 4), ("tint", 4, 5)]
        behind = [(0, 1, 0, 1, 2), (1, 0, 1, 0, 2), (1, 0, 1, 0, None), (1, 0, 1, 0, 5)]
        self.assertEqual(walked(NET, TINTS, steps), behind)
        self.assertEqual(walked(NET, TINTS, tuple(steps)), behind)

    def test_no_steps(self):
        self.assertEqual(walked(NET, TINTS, []), [])
        self.assertEqual(walked(NET, TINTS, ()), [])
        self.assertEqual(walked((0, ()), (), []), [])

    def test_refused_as_the_first_that_is_refused(self):
        good = [("tint", 3, 1), ("turn", 0, 0, 1), ("bare", 4), ("bare", 3)]
        unclean = ("tint", 2, 0)
        for place in range(5):
            for thing in (("tint", 0, True), None, ["bare", 0], ("bare", 5), ("turn", 4, 0, 1), ("turn", 0, 1, 1), ()):
                steps = good[:place] + [thing] + good[place:]
                for given in (steps, tuple(steps), good[:place] + [thing, unclean], tuple(good[:place]) + (thing, unclean)):
                    self.assert_refused(NoStep, lambda: walked(NET, TINTS, given), {})
                behind = [("tint", 1, 2), thing] + good
                self.assert_refused(NotClean, lambda: walked(NET, TINTS, behind), {})
            steps = good[:place] + [("tint", 0, 555), ("tint", 1, 555)] + good[place:]
            self.assert_refused(NotClean, lambda: walked(NET, TINTS, steps), {})
            self.assert_refused(NotClean, lambda: walked(NET, TINTS, tuple(steps)), {})

    def test_every_thing_that_is_no_step(self):
        for thing in no_steps_of(NET):
            for steps in ([thing], (GOOD[0], thing), [GOOD[1], thing, ("tint", 1, 2)]):
                self.assert_refused(NoStep, lambda: walked(NET, TINTS, steps), {})

    def test_each_step_done_to_what_the_one_ahead_left(self):
        self.assert_refused(NotClean, lambda: done(NET, TINTS, ("tint", 3, 0)))
        self.assertEqual(walked(NET, TINTS, [("bare", 0), ("bare", 2), ("tint", 3, 0)])[-1], (None, 1, None, 0, 2))
        self.assert_refused(NotClean, lambda: walked(NET, TINTS, [("bare", 0), ("tint", 3, 0)]))

    def test_the_list_told_may_be_changed(self):
        steps = [("tint", 3, 1), ("turn", 0, 0, 1), ("bare", 3)]
        told = walked(NET, TINTS, steps)
        kept = list(told)
        told.append(None)
        told.reverse()
        again = walked(NET, TINTS, steps)
        self.assertEqual(again, kept)
        told.clear()
        self.assertEqual(again, kept)
        steps.clear()
        self.assertEqual(again, kept)
        empty = walked(NET, TINTS, [])
        empty.append(1)
        self.assertEqual(walked(NET, TINTS, []), [])


if __name__ == "__main__":
    unittest.main()
