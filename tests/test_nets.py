import unittest
from copy import deepcopy
from fractions import Fraction

from samples import complete, drawn, great_nets, nets, nets_beyond
from tintties.nets import between, crowd, is_net, is_plain, most_of, ties_at

OTHER_KINDS = (
    None, True, False, 0, 1, -1, 60, 61, 2.0, 0j, Fraction(1, 2), "", "0", "01", "net", b"", b"01", [], [0], [0, 1],
    (), (0,), (0, 1), (0, 1, 2), ((), ()), (None, None), ((0, 1), (1, 2)), {}, {0: 1}, {0: 0, 1: ()}, set(), {0, 1},
    frozenset((0, 1)), range(2), object(), int, tuple, len, iter(()), ValueError(), float("nan"), 10 ** 30,
)


def replaced(row, place, thing):
    return row[:place] + (thing,) + row[place + 1:]


def spoiled_points(points, other):
    return (
        points, points + 1, points + 100, 10 ** 30, -1, -points, True, False, None, "", "0", "1", b"0", (), (0,), [],
        [0], {}, 0.0, 1.0, float("nan"), object(), other,
    )


def spoiled_ties(tie):
    return (
        list(tie), (tie[0],), (tie[1],), tie + (tie[0],), tie + (0,), (), (tie,), (tie, tie), {tie[0]: tie[1]},
        set(tie), frozenset(tie), range(2), None, True, False, 0, 1, "", "01", b"01", 1.5, object(), iter(tie),
    )


def spoiled(net):
    points, ties = net
    for place, tie in enumerate(ties):
        for end in (0, 1):
            for thing in spoiled_points(points, tie[1 - end]):
                yield (points, replaced(ties, place, replaced(tie, end, thing)))
        for thing in spoiled_ties(tie):
            yield (points, replaced(ties, place, thing))
    for thing in (list(ties), None, True, False, 0, 3, "", "01", b"", {}, dict(ties), set(ties), frozenset(ties),
                  [], range(0), iter(ties), object(), ((0, 1),) * 201, [(0, 1)] * 201):
        yield (points, thing)
    for thing in (None, True, False, -1, -points - 1, 61, 62, 10 ** 30, float(points), str(points), "", (), (points,),
                  [], [points], {}, object(), float("nan")):
        yield (thing, ties)
    for tie in ties:
        yield (max(tie), ties)
    yield list(net)
    yield (points,)
    yield (ties,)
    yield (points, ties, ())
    yield (points, ties, ties)
    yield (points, ties, None)
    yield (ties, points)
    yield (net,)
    yield (net, net)
    yield {points: ties}


class IsNetTest(unittest.TestCase):
    def test_nets(self):
        for net in nets() + great_nets():
            with self.subTest(net):
                self.assertIs(is_net(net), True)

    def test_bounds(self):
        for points in range(61):
            self.assertIs(is_net((points, ())), True, points)
        for points in (-60, -2, -1, 61, 62, 100, 10 ** 30):
            self.assertIs(is_net((points, ())), False, points)
        self.assertIs(is_net((2, ((0, 1),) * 200)), True)
        self.assertIs(is_net((2, ((0, 1),) * 201)), False)
        self.assertIs(is_net((60, drawn(60, 200, 7)[1])), True)
        self.assertIs(is_net((60, drawn(60, 201, 7)[1])), False)
        self.assertIs(is_net((60, ((59, 0),))), True)
        self.assertIs(is_net((59, ((59, 0),))), False)
        self.assertIs(is_net((60, ((0, 59), (59, 60)))), False)
        self.assertIs(is_net((1, ((0, 0),))), False)
        self.assertIs(is_net((0, ((0, 1),))), False)
        self.assertIs(is_net((2, ((-1, 0),))), False)

    def test_spoiled_anywhere(self):
        for net in ((2, ((0, 1),)), (2, ((1, 0), (0, 1))), (4, ((0, 1), (3, 2), (1, 3), (1, 0))), complete(6)):
            for thing in spoiled(net):
                with self.subTest(thing=thing):
                    self.assertIs(is_net(thing), False)

    def test_spoiled_in_a_great_net(self):
        points, ties = drawn(60, 200, 8)
        for place in (0, 1, 99, 198, 199):
            for end in (0, 1):
                for thing in (60, -1, True, False, None, "0", (0,), ties[place][1 - end]):
                    tie = replaced(ties[place], end, thing)
                    self.assertIs(is_net((points, replaced(ties, place, tie))), False, (place, tie))
            for thing in (list(ties[place]), ties[place][:1], ties[place] + (0,), None):
                self.assertIs(is_net((points, replaced(ties, place, thing))), False, (place, thing))

    def test_without_ties_spoiled(self):
        for thing in (True, False, 1.0, "1", None, (1,), -1, 61):
            self.assertIs(is_net((thing, ())), False, thing)
        for thing in ([], None, "", 0, {}, set(), frozenset(), range(0), False):
            self.assertIs(is_net((1, thing)), False, thing)

    def test_other_kinds(self):
        for thing in OTHER_KINDS:
            with self.subTest(thing=thing):
                self.assertIs(is_net(thing), False)

    def test_asked_again_behind_another(self):
        # Each row is equal by ==, or nearly, to the net ahead of it: an answer kept for one must not serve another.
        twins = (
            ((2, ((0, 1),)), (2, ((False, True),)), (2.0, ((0, 1),)), (2, ((0.0, 1),)), [2, ((0, 1),)]),
            ((1, ()), (True, ()), (1.0, ()), (1, [])),
            ((0, ()), (False, ()), (0.0, ()), (0, [])),
            ((3, ((0, 1), (1, 2))), (3, ((0, 1), (True, 2))), (3, [(0, 1), (1, 2)]), (3, ((0, 1), [1, 2]))),
        )
        for row in twins:
            for thing in row[1:]:
                for asked in (row[0], thing, row[0], thing, thing, row[0]):
                    self.assertIs(is_net(asked), asked is row[0], asked)
            for thing in row[1:]:
                self.assertIs(is_net(thing), False, thing)

    def test_what_is_given_stays(self):
        for thing in ([2, [[0, 1]]], (2, [(0, 1)]), (2, ([0, 1],)), {0: [1]}, [], [[]]):
            ahead = deepcopy(thing)
            is_net(thing)
            self.assertEqual(thing, ahead)

    def test_nothing_that_changes_is_held_on_to(self):
        ties = [(0, 1)]
        self.assertIs(is_net((2, ties)), False)
        self.assertIs(is_net((2, tuple(ties))), True)
        ties.append((1, 1))
        self.assertIs(is_net((2, ties)), False)
        self.assertIs(is_net((2, tuple(ties))), False)
        ties.pop()
        self.assertIs(is_net((2, tuple(ties))), True)


def expected_at(net):
    found = {point: [] for point in range(net[0])}
    for tie, (one, other) in enumerate(net[1]):
        found[one].append(tie)
        found[other].append(tie)
    return found


def expected_between(net):
    found = {}
    for tie, ends in enumerate(net[1]):
        found.setdefault(frozenset(ends), []).append(tie)
    return found


class AskedNetTest(unittest.TestCase):
    def assert_row(self, told, expected):
        self.assertIs(type(told), tuple)
        self.assertEqual(told, tuple(expected))
        self.assertEqual({type(tie) for tie in told} - {int}, set())

    def assert_number(self, told, expected):
        self.assertIs(type(told), int)
        self.assertEqual(told, expected)

    def assert_all(self, net):
        at = expected_at(net)
        pairs = expected_between(net)
        for point in range(net[0]):
            self.assert_row(ties_at(net, point), at[point])
            self.assert_number(crowd(net, point), len(at[point]))
            for other in range(net[0]):
                if other != point:
                    self.assert_row(between(net, point, other), pairs.get(frozenset((point, other)), []))
        self.assert_number(most_of(net), max([len(row) for row in at.values()] + [0]))
        self.assertIs(is_plain(net), all(len(row) == 1 for row in pairs.values()))

    def test_all_nets(self):
        for net in nets():
            with self.subTest(net):
                self.assert_all(net)

    def test_great_nets(self):
        for net in great_nets():
            self.assert_all(net)

    def test_somewhat_beyond(self):
        for net in nets_beyond():
            self.assertIs(is_net(net), False)
            self.assert_all(net)

    def test_written_out(self):
        net = (5, ((0, 1), (2, 1), (1, 0), (3, 0), (0, 1)))
        self.assert_row(ties_at(net, 0), (0, 2, 3, 4))
        self.assert_row(ties_at(net, 1), (0, 1, 2, 4))
        self.assert_row(ties_at(net, 2), (1,))
        self.assert_row(ties_at(net, 4), ())
        self.assert_row(between(net, 0, 1), (0, 2, 4))
        self.assert_row(between(net, 1, 0), (0, 2, 4))
        self.assert_row(between(net, 1, 2), (1,))
        self.assert_row(between(net, 2, 3), ())
        self.assert_row(between(net, 4, 0), ())
        self.assert_number(crowd(net, 0), 4)
        self.assert_number(crowd(net, 3), 1)
        self.assert_number(crowd(net, 4), 0)
        self.assert_number(most_of(net), 4)
        self.assertIs(is_plain(net), False)

    def test_most(self):
        self.assert_number(most_of((0, ())), 0)
        self.assert_number(most_of((60, ())), 0)
        self.assert_number(most_of((60, ((58, 59),))), 1)
        self.assert_number(most_of((2, ((0, 1),) * 200)), 200)
        self.assert_number(most_of((60, tuple((59, point) for point in range(59)))), 59)
        self.assert_number(most_of(complete(20)), 19)

    def test_plain(self):
        for plain in ((0, ()), (1, ()), (2, ((1, 0),)), (3, ((0, 1), (2, 1), (2, 0))), complete(20)):
            self.assertIs(is_plain(plain), True, plain)
        for plain in (complete(4), complete(20)):
            points, ties = plain
            for one, other in ties:
                self.assertIs(is_plain((points, ties + ((one, other),))), False, (one, other))
                self.assertIs(is_plain((points, ties + ((other, one),))), False, (one, other))
                self.assertIs(is_plain((points, ((other, one),) + ties)), False, (one, other))

    def test_asked_again_behind_another(self):
        asked = [
            (question, net)
            for net in nets()[:40]
            for question in (most_of, is_plain) + tuple(
                lambda net, point=point, at=at: at(net, point) for point in range(net[0]) for at in (ties_at, crowd)
            ) + tuple(lambda net, point=point: between(net, point, 0) for point in range(1, net[0]))
        ]
        first = [question(net) for question, net in asked]
        behind = [question(net) for question, net in reversed(asked)]
        self.assertEqual(first, behind[::-1])


if __name__ == "__main__":
    unittest.main()
