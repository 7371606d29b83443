import unittest
from itertools import combinations, product

from samples import Judge, drawn_tints, great_nets, nets, nets_beyond, ring, several, star
from tintties.tintings import counts, free_tints, is_clean


def meeting(net):
    return [(one, other) for one, other in combinations(range(len(net[1])), 2) if set(net[1][one]) & set(net[1][other])]


def clean_by_pairs(net, tints):
    return not any(tints[one] is not None and tints[one] == tints[other] for one, other in meeting(net))


SMALL = (
    (0, ()),
    (1, ()),
    (2, ()),
    (2, ((0, 1),)),
    (2, ((0, 1), (1, 0))),
    (2, ((0, 1), (1, 0), (0, 1))),
    (3, ((0, 1), (2, 1))),
    (4, ((0, 1), (3, 2))),
    (4, ((0, 1), (2, 3), (3, 0))),
    ring(3),
    ring(4),
    star(5),
    (3, ((0, 1), (1, 0), (1, 2), (2, 0))),
)


class IsCleanTest(Judge):
    def test_every_tinting_of_small_nets(self):
        for net in SMALL:
            for tints in product((None, 0, 1, 999), repeat=len(net[1])):
                self.assertIs(is_clean(net, tints), clean_by_pairs(net, tints), (net, tints))

    def test_written_out(self):
        net = (4, ((0, 1), (2, 1), (3, 2), (1, 0)))
        self.assertIs(is_clean(net, (0, 1, 0, 2)), True)
        self.assertIs(is_clean(net, (0, 1, 0, 0)), False)
        self.assertIs(is_clean(net, (0, 0, 1, 2)), False)
        self.assertIs(is_clean(net, (0, 1, 1, 2)), False)
        self.assertIs(is_clean(net, (0, None, 0, None)), True)
        self.assertIs(is_clean(net, (None,) * 4), True)
        self.assertIs(is_clean(net, (999, 998, 999, None)), True)
        self.assertIs(is_clean(net, (999, 998, 998, None)), False)

    def test_without_ties(self):
        for points in (0, 1, 2, 60):
            self.assertIs(is_clean((points, ()), ()), True)

    def test_drawn_and_spoiled(self):
        for seed, net in enumerate(nets() + great_nets() + nets_beyond()):
            for many in (3, 20, 1000):
                tints = drawn_tints(net, many, seed, 0.2)
                self.assertIs(is_clean(net, tints), True)
                for one, other in meeting(net)[:40]:
                    if tints[one] is not None:
                        spoiled = tints[:other] + (tints[one],) + tints[other + 1:]
                        self.assertIs(is_clean(net, spoiled), False, (net, spoiled))
                        self.assertIs(is_clean(net, tints), True)

    def test_one_tint_where_none_meet(self):
        apart = (60, tuple((point, point + 1) for point in range(0, 60, 2)))
        for tint in (0, 1, 500, 999):
            self.assertIs(is_clean(apart, (tint,) * 30), True)
            self.assertIs(is_clean((60, apart[1] + ((1, 2),)), (tint,) * 31), False)
            self.assertIs(is_clean((60, apart[1] + ((1, 2),)), (tint,) * 30 + (None,)), True)


class FreeTintsTest(Judge):
    def assert_free(self, net, tints, many):
        for point in range(net[0]):
            told = free_tints(net, tints, point, many)
            self.assert_numbers(told)
            taken = [tints[tie] for tie, ends in enumerate(net[1]) if point in ends]
            self.assertEqual(told, tuple(tint for tint in range(many) if tint not in taken))

    def test_drawn(self):
        for seed, net in enumerate(nets()):
            for many in (0, 1, 2, 5, 40, 1000):
                self.assert_free(net, drawn_tints(net, 12, seed, 0.2), many)

    def test_great(self):
        for net in great_nets() + nets_beyond():
            for many in (0, 10, 30, 1000):
                self.assert_free(net, drawn_tints(net, 30, 1, 0.1), many)
                self.assert_free(net, drawn_tints(net, 1000, 2), many)

    def test_written_out(self):
        net = (4, ((0, 1), (2, 1), (1, 0), (0, 2)))
        tints = (3, 0, None, 999)
        self.assertEqual(free_tints(net, tints, 1, 5), (1, 2, 4))
        self.assertEqual(free_tints(net, tints, 0, 5), (0, 1, 2, 4))
        self.assertEqual(free_tints(net, tints, 3, 5), (0, 1, 2, 3, 4))
        self.assertEqual(free_tints(net, tints, 1, 1), ())
        self.assertEqual(free_tints(net, tints, 1, 0), ())
        self.assertEqual(free_tints(net, tints, 0, 1000), tuple(tint for tint in range(999) if tint != 3))
        self.assertEqual(free_tints((1, ()), (), 0, 2), (0, 1))


class CountsTest(Judge):
    def assert_counts(self, tints, many):
        told = counts(tints, many)
        self.assert_numbers(told)
        self.assertEqual(told, tuple(sum(had == tint for had in tints) for tint in range(many)))

    def test_drawn(self):
        for seed, net in enumerate(nets() + great_nets()):
            for many in (0, 1, 3, 12, 100):
                self.assert_counts(drawn_tints(net, 12, seed, 0.2), many)
        self.assert_counts(drawn_tints(great_nets()[0], 1000, 5, 0.1), 1000)

    def test_written_out(self):
        self.assertEqual(counts((), 0), ())
        self.assertEqual(counts((), 3), (0, 0, 0))
        self.assertEqual(counts((None, None), 2), (0, 0))
        self.assertEqual(counts((1, None, 1, 4, 0), 3), (1, 2, 0))
        self.assertEqual(counts((1, None, 1, 4, 0), 5), (1, 2, 0, 0, 1))
        self.assertEqual(counts((1, None, 1, 4, 0), 0), ())
        self.assertEqual(counts((999, 0, 999), 1000), (1,) + (0,) * 998 + (2,))
        self.assertEqual(counts((7,) * 200, 8), (0,) * 7 + (200,))


class AskedAgainTest(Judge):
    def test_behind_other_questions(self):
        asked = []
        for seed, net in enumerate(nets()):
            for many in (0, 4, 15):
                for tints in (drawn_tints(net, 15, seed, 0.2), (0,) * len(net[1])):
                    asked.append((is_clean, (net, tints)))
                    asked.append((counts, (tints, many)))
                    asked += [(free_tints, (net, tints, point, many)) for point in range(min(net[0], 5))]
        first = [question(*given) for question, given in asked]
        behind = [question(*given) for question, given in reversed(asked)]
        self.assertEqual(first, behind[::-1])

    def test_several_ties_between_the_same_two(self):
        net = several((2, ((0, 1),)), 200)
        self.assertIs(is_clean(net, tuple(range(200))), True)
        self.assertIs(is_clean(net, tuple(range(199)) + (0,)), False)
        self.assertIs(is_clean(net, tuple(range(199)) + (None,)), True)
        self.assertEqual(free_tints(net, tuple(range(200)), 0, 202), (200, 201))
        self.assertEqual(free_tints(net, tuple(range(200)), 1, 202), (200, 201))


if __name__ == "__main__":
    unittest.main()
