import unittest
from random import Random

from samples import (
    NO_NAMES, NO_NUMBERS, WAYS, Judge, LikeAll, clean, complete, complete_two_sided, drawn, drawn_even,
    drawn_even_two_sided, drawn_two_sided, great_two_sided_nets, line, most_at_a_point, most_moved_by_hand, name_of,
    needed_by_hand, renamed, ring, several, spread_of, star, suits,
)
from tintties.errors import NoMeeting, NoName, NotPlain, NotTwoSided, TooGreat
from tintties.fans import Plain
from tintties.manifold import Manifold
from tintties.sidedway import TwoSided
from tintties.tables import Table
from tintties.ways import Way


class Kept:
    """A table, and beside it what the document says that it keeps, told anew; each answer is judged."""

    def __init__(self, judge, way, given=True):
        self.judge, self.way = judge, way
        self.table = Table(way) if given else Table()
        self.names, self.standing, self.made, self.crowd = [], {}, 0, 0
        self.known = {}
        self.check()

    def net(self, *more):
        names = list(self.names)
        names += [name for pair in more for name in pair if name not in names]
        pairs = list(self.standing.values()) + list(more)
        return len(names), tuple((names.index(one), names.index(other)) for one, other in pairs)

    def snapshot(self):
        return (
            self.table.text(), self.table.hours(), {name: self.table.day(name) for name in self.names},
            {number: self.table.hour(number) for number in self.standing},
        )

    def check(self):
        """All questions, by what stands; the hours become known."""
        judge, table = self.judge, self.table
        hours = table.hours()
        judge.assertIs(type(hours), int)
        judge.assertEqual(hours, needed_by_hand(self.way, self.crowd))
        self.known = {number: table.hour(number) for number in self.standing}
        for hour in self.known.values():
            judge.assertIs(type(hour), int)
            judge.assertIn(hour, range(hours))
        judge.assertTrue(clean(self.net(), self.known.values()))
        for name in self.names:
            day = table.day(name)
            judge.assertEqual(
                day, tuple(sorted((self.known[number], number) for number, pair in self.standing.items() if name in pair)),
            )
            judge.assertIs(type(day), tuple)
            for pair in day:
                judge.assert_numbers(pair)
        text = table.text()
        judge.assertIs(type(text), str)
        judge.assertEqual(text, "\n".join(
            f"{one} {other} {self.known[number]}" for number, (one, other) in self.standing.items()
        ))

    def assert_moved(self, moved, before):
        self.judge.assert_numbers(moved)
        self.judge.assertEqual(moved, tuple(sorted(number for number in before if self.known[number] != before[number])))

    def meet(self, one, other):
        before = dict(self.known)
        told = self.table.meet(one, other)
        self.judge.assertIs(type(told), tuple)
        number, moved = told
        self.judge.assertIs(type(number), int)
        self.judge.assertEqual(number, self.made)
        self.standing[number] = (one, other)
        self.names += [name for name in (one, other) if name not in self.names]
        self.made += 1
        self.crowd = max(self.crowd, most_at_a_point(self.net()))
        self.check()
        self.assert_moved(moved, before)
        self.judge.assertLessEqual(len(moved), most_moved_by_hand(self.way, len(self.names)))
        return moved

    def leave(self, number):
        before = dict(self.known)
        self.judge.assertIsNone(self.table.leave(number))
        del self.standing[number]
        del before[number]
        self.check()
        self.judge.assertEqual(self.known, before)

    def even(self):
        before = dict(self.known)
        moved = self.table.even()
        self.check()
        self.assert_moved(moved, before)
        self.judge.assertLessEqual(spread_of(self.known.values(), self.table.hours()), 1)
        if spread_of(before.values(), self.table.hours()) < 2:
            self.judge.assertEqual(moved, ())
        self.judge.assertEqual(self.table.even(), ())
        return moved

    def refuse(self, made, asked, field=None):
        """The refusal, behind which all is as it was."""
        before = self.snapshot()
        error = self.judge.assert_refused(made, asked, field)
        self.judge.assertEqual(self.snapshot(), before)
        self.check()
        return error

    def refuse_meet(self, one, other):
        """As the way refuses the net with the meeting."""
        net = self.net((one, other))
        kind = NotTwoSided if isinstance(self.way, TwoSided) else NotPlain
        error = self.refuse(kind, lambda: self.table.meet(one, other))
        if kind is NotTwoSided:
            self.judge.assert_odd_ring(net, error)
        else:
            self.judge.assert_pair(net, error)
        return error

    def meet_all(self, net):
        for one, other in net[1]:
            self.meet(name_of(one), name_of(other))
        return self


def filled(way, net):
    """A table with all meetings of a net, without a look at them."""
    table = Table(way)
    for one, other in net[1]:
        table.meet(name_of(one), name_of(other))
    return table


def ways():
    return [make() for make in WAYS]


def two_hundred():
    """Just 200 meetings of just 60 names, which each way takes: rings of odd steps, so of two sides."""
    ties = [(point, (point + step) % 60) for step in (1, 3, 5) for point in range(60)]
    return 60, tuple(ties + [(point, point + 7) for point in range(20)])


class TableJudge(Judge):
    def kept(self, way, given=True):
        return Kept(self, way, given)

    def stir(self, kept, points, times, seed, most=60):
        """Meetings that come and leave, the table evened out, refusals in between; the crowd grows to most alone."""
        source = Random(seed)
        refused = moved = 0
        for time in range(times):
            chance = source.random()
            one, other = (name_of(place) for place in source.sample(range(points), 2))
            full = most_at_a_point(kept.net((one, other))) > most
            if (chance < 0.15 or full) and kept.standing:
                kept.leave(source.choice(list(kept.standing)))
            elif chance < 0.18:
                kept.even()
            elif suits(kept.way, kept.net((one, other))):
                moved += len(kept.meet(one, other))
            else:
                kept.refuse_meet(one, other)
                refused += 1
        return refused, moved


class MeetTest(TableJudge):
    def test_stirred(self):
        for way in ways():
            refused = moved = 0
            for seed in range(8):
                for most in (3, 5, 60):
                    told = self.stir(self.kept(way), 3 + 2 * seed, 90, seed, most)
                    refused += told[0]
                    moved += told[1]
            self.assertEqual(refused > 0, isinstance(way, (TwoSided, Plain)))
            self.assertEqual(moved > 0, way.__class__ is not Way)

    def test_stirred_without_a_way(self):
        for seed in range(4):
            self.stir(self.kept(None, seed % 2 == 0), 4 + seed, 60, seed)

    def test_way_left_out(self):
        for net in (ring(5), complete(6), several(ring(3), 5), drawn(8, 40, 1)):
            tables = [filled(None, net), filled(Manifold(), net), Table(), Table(way=Manifold())]
            for one, other in net[1]:
                told = [table.meet(name_of(one), name_of(other)) for table in tables[2:]]
                self.assertEqual(told[0], told[1])
            self.assertEqual({table.text() for table in tables}, {tables[0].text()})
            self.assertEqual({table.hours() for table in tables}, {3 * most_at_a_point(net) // 2})

    def test_nets_that_take_all_tints(self):
        for times in (1, 2, 4):
            kept = self.kept(Manifold()).meet_all(several(ring(3), times))
            self.assertEqual(sorted(kept.known.values()), list(range(3 * times)))
        for net in (complete_two_sided(4, 4), drawn_even_two_sided(6, 5, 1), several(ring(4), 3), renamed(ring(12), 1)):
            self.kept(TwoSided()).meet_all(net)
        for net in (complete(7), renamed(complete(8), 1), star(9), line(12)):
            self.kept(Plain()).meet_all(net)
        self.kept(Way()).meet_all(drawn_even(5, 8, 1))

    def test_great(self):
        for way, net in (
            (Way(), drawn(30, 200, 1)), (Manifold(), drawn(10, 200, 2)), (TwoSided(), drawn_two_sided(60, 200, 3)),
            (TwoSided(), several(complete_two_sided(5, 5), 8)), (Plain(), complete(20)), (None, several(ring(3), 66)),
        ):
            table = filled(way, net)
            most = most_at_a_point(net)
            self.assertEqual(table.hours(), needed_by_hand(way, most))
            tints = [table.hour(number) for number in range(len(net[1]))]
            self.assertTrue(clean(net, tints))
            self.assertTrue(all(0 <= tint < table.hours() for tint in tints))
            moved = table.even()
            behind = [table.hour(number) for number in range(len(net[1]))]
            self.assertEqual(moved, tuple(number for number in range(len(net[1])) if tints[number] != behind[number]))
            self.assertTrue(clean(net, behind))
            self.assertLessEqual(spread_of(behind, table.hours()), 1)

    def test_few_are_moved(self):
        for way, net in (
            (TwoSided(), drawn_even_two_sided(15, 6, 1)), (Plain(), renamed(complete(14), 1)),
            (Manifold(), drawn_even(6, 16, 1)), (TwoSided(), renamed(great_two_sided_nets()[0], 1)),
        ):
            table = Table(way)
            hours = []
            names = set()
            for number, (one, other) in enumerate(net[1]):
                told = table.meet(name_of(one), name_of(other))
                names |= {one, other}
                behind = [table.hour(before) for before in range(number)]
                self.assertEqual(told, (number, tuple(
                    before for before in range(number) if behind[before] != hours[before]
                )))
                self.assertLessEqual(len(told[1]), most_moved_by_hand(way, len(names)))
                hours = behind + [table.hour(number)]

    def test_names_in_order(self):
        kept = self.kept(Manifold())
        for one, other in (("zoe", "ann"), ("bob", "zoe"), ("ann", "cy"), ("dee", "a"), ("abcdefgh", "z")):
            kept.meet(one, other)
        kept = self.kept(TwoSided())
        kept.meet("q", "b")
        kept.meet("b", "c")
        error = kept.refuse_meet("c", "q")
        self.assertEqual(sorted(error.ring), [0, 1, 2])

    def test_numbers_never_come_twice(self):
        kept = self.kept(Manifold())
        for time in range(5):
            kept.meet("a", "b")
            kept.leave(time)
        kept.meet("a", "b")
        self.assertEqual(list(kept.standing), [5])
        for number in range(5):
            kept.refuse(NoMeeting, lambda: kept.table.hour(number), {})
            kept.refuse(NoMeeting, lambda: kept.table.leave(number), {})

    def test_lines_stand_as_they_were_made(self):
        kept = self.kept(Way())
        kept.meet("b", "a")
        kept.meet("a", "b")
        kept.meet("a", "c")
        self.assertEqual([line.split()[:2] for line in kept.table.text().split("\n")], [["b", "a"], ["a", "b"], ["a", "c"]])


class MeetRefusedTest(TableJudge):
    def no_names(self):
        return NO_NAMES + tuple(thing for thing in NO_NUMBERS if not isinstance(thing, str)) + (7, LikeAll())

    def test_no_name(self):
        for way in ways() + [None]:
            empty = self.kept(way)
            some = self.kept(way).meet_all(line(4))
            for kept in (empty, some):
                for thing in self.no_names():
                    for pair in ((thing, "a"), ("a", thing), (thing, "new"), ("new", thing), (thing, thing)):
                        kept.refuse(NoName, lambda: kept.table.meet(*pair), {})
                for name in ("a", "new", "abcdefgh", name_of(0)):
                    kept.refuse(NoName, lambda: kept.table.meet(name, name), {})
                for name in ("new", "abcdefgh"):
                    kept.refuse(NoName, lambda: kept.table.day(name), {})
            empty.refuse(NoName, lambda: empty.table.day("a"), {})
            some.meet("new", name_of(0))
            self.assertEqual(some.made, 4)

    def test_the_sixty_first_name(self):
        for way in ways():
            kept = self.kept(way)
            for place in range(0, 58, 2):
                kept.meet(name_of(place), name_of(place + 1))
            kept.meet(name_of(0), name_of(58))
            self.assertEqual(len(kept.names), 59)
            kept.refuse(TooGreat, lambda: kept.table.meet("newa", "newb"), {"most": 60})
            kept.meet(name_of(59), name_of(58))
            for pair in (("newa", "newb"), ("newa", name_of(0)), (name_of(59), "newb")):
                kept.refuse(TooGreat, lambda: kept.table.meet(*pair), {"most": 60})
            kept.meet(name_of(1), name_of(2))
            # Names stay: one whose meetings have left makes no room.
            for number in list(kept.standing):
                kept.leave(number)
            for pair in (("newa", "newb"), ("newa", name_of(0)), (name_of(59), "newb")):
                kept.refuse(TooGreat, lambda: kept.table.meet(*pair), {"most": 60})
            kept.meet(name_of(59), name_of(0))

    def test_where_two_hundred_stand(self):
        for way in ways():
            table = filled(way, two_hundred())
            text = table.text()
            names = [name_of(place) for place in range(60)]
            for thing in self.no_names()[::5]:
                self.assert_refused(NoName, lambda: table.meet(thing, names[0]), {})
                self.assert_refused(NoName, lambda: table.meet("newa", thing), {})
            self.assert_refused(NoName, lambda: table.meet("newa", "newa"), {})
            self.assert_refused(NoName, lambda: table.meet(names[0], names[0]), {})
            for pair in (("newa", "newb"), ("newa", names[0]), (names[7], "newb")):
                self.assert_refused(TooGreat, lambda: table.meet(*pair), {"most": 60})
            # The last two the ways would refuse, too: an odd ring, and a second meeting of the same two.
            for pair in ((names[0], names[9]), (names[0], names[2]), (names[0], names[1])):
                self.assert_refused(TooGreat, lambda: table.meet(*pair), {"most": 200})
            self.assertEqual(table.text(), text)
            table.leave(17)
            for pair in (("newa", "newb"), ("newa", names[0])):
                self.assert_refused(TooGreat, lambda: table.meet(*pair), {"most": 60})
            if isinstance(way, TwoSided):
                self.assert_refused(NotTwoSided, lambda: table.meet(names[0], names[2]))
            if isinstance(way, Plain):
                self.assert_refused(NotPlain, lambda: table.meet(names[0], names[1]), {"pair": (0, 199)})
            self.assertEqual(table.meet(names[0], names[9])[0], 200)
            self.assert_refused(TooGreat, lambda: table.meet(names[0], names[9]), {"most": 200})
            self.assertEqual(table.text().count("\n"), 199)

    def test_fewer_names(self):
        # A new name where 200 stand, but fewer than sixty names have come.
        table = filled(Way(), several((2, ((0, 1),)), 200))
        for pair in (("newa", "newb"), ("newa", name_of(0)), (name_of(0), name_of(1))):
            self.assert_refused(TooGreat, lambda: table.meet(*pair), {"most": 200})
        self.assert_refused(NoName, lambda: table.day("newa"), {})
        table.leave(0)
        self.assertEqual(table.meet("newa", "newb")[0], 200)

    def test_what_the_way_refuses(self):
        kept = self.kept(TwoSided()).meet_all(line(9))
        for pair in ((0, 2), (2, 0), (4, 8), (0, 8)):
            kept.refuse_meet(name_of(pair[0]), name_of(pair[1]))
        kept.meet(name_of(0), name_of(3))
        kept.leave(1)
        kept.refuse_meet(name_of(0), name_of(2))
        kept.leave(0)
        kept.leave(8)
        kept.meet(name_of(0), name_of(2))
        kept = self.kept(Plain()).meet_all(complete(5))
        for pair in ((0, 1), (1, 0), (3, 4), (4, 0)):
            kept.refuse_meet(name_of(pair[0]), name_of(pair[1]))
        # By the places of the ties in the net, not by the numbers of the meetings.
        kept.leave(0)
        error = kept.refuse_meet(name_of(2), name_of(0))
        self.assertEqual(error.pair, (0, 9))
        kept.meet(name_of(1), name_of(0))


class LeaveTest(TableJudge):
    def wrong_numbers(self, kept):
        gone = tuple(number for number in range(kept.made) if number not in kept.standing)
        like = tuple(thing for number in kept.standing for thing in (float(number), str(number), (number,), [number]))
        return gone + like + (-1, -2, -kept.made, kept.made, kept.made + 1, 10 ** 30, -10 ** 30) + NO_NUMBERS + NO_NAMES

    def test_no_meeting(self):
        for way in ways() + [None]:
            kept = self.kept(way)
            for thing in self.wrong_numbers(kept) + (0, 1):
                kept.refuse(NoMeeting, lambda: kept.table.leave(thing), {})
                kept.refuse(NoMeeting, lambda: kept.table.hour(thing), {})
            kept.meet_all(line(5))
            kept.leave(2)
            kept.leave(3)
            for thing in self.wrong_numbers(kept):
                if type(thing) is not int or thing not in kept.standing:
                    kept.refuse(NoMeeting, lambda: kept.table.leave(thing), {})
                    kept.refuse(NoMeeting, lambda: kept.table.hour(thing), {})

    def test_all_others_keep_their_hours(self):
        for way in ways():
            kept = self.kept(way).meet_all(complete_two_sided(4, 4))
            hours = kept.table.hours()
            for number in Random(3).sample(range(16), 16):
                kept.leave(number)
                self.assertEqual(kept.table.hours(), hours)
            self.assertEqual(kept.table.text(), "")
            for name in kept.names:
                self.assertEqual(kept.table.day(name), ())
            self.assertEqual(kept.table.even(), ())
            # The crowd was greater once, so there are more hours than this one meeting needs.
            kept.meet(name_of(0), name_of(5))
            self.assertEqual(kept.table.hours(), hours)
            self.assertEqual(kept.made, 17)

    def test_hours_by_the_greatest_crowd(self):
        for way in ways():
            kept = self.kept(way)
            self.assertEqual(kept.table.hours(), 0)
            for place in range(1, 6):
                kept.meet(name_of(0), name_of(place))
                self.assertEqual(kept.table.hours(), needed_by_hand(way, place))
            kept.leave(0)
            kept.leave(1)
            kept.meet(name_of(0), name_of(6))
            self.assertEqual(kept.table.hours(), needed_by_hand(way, 5))
            kept.meet(name_of(0), name_of(7))
            kept.meet(name_of(8), name_of(0))
            self.assertEqual(kept.table.hours(), needed_by_hand(way, 6))


class DayTest(TableJudge):
    def test_rising(self):
        for way in ways():
            kept = self.kept(way).meet_all(renamed(complete_two_sided(5, 6), 1))
            kept.even()
            for name in kept.names:
                day = kept.table.day(name)
                self.assertEqual(list(day), sorted(day))
                self.assertEqual(len({hour for hour, number in day}), len(day))

    def test_no_name_that_came(self):
        for way in ways() + [None]:
            kept = self.kept(way).meet_all(line(5))
            kept.leave(1)
            for thing in MeetRefusedTest.no_names(self) + ("new", "zz", "abcdefgh", name_of(5), 0, 1):
                kept.refuse(NoName, lambda: kept.table.day(thing), {})
            self.assertEqual(len(kept.table.day(name_of(1))), 1)


class EvenTest(TableJudge):
    def test_lopsided(self):
        moved = 0
        for way in ways():
            for net in (line(20), renamed(line(20), 1), ring(8), star(7), complete_two_sided(3, 5), (40, tuple(
                (point, point + 1) for point in range(0, 40, 2)
            ))):
                kept = self.kept(way).meet_all(net)
                moved += len(kept.even())
                for number in list(kept.standing)[::3]:
                    kept.leave(number)
                kept.even()
        self.assertGreater(moved, 0)

    def test_written_out(self):
        for way in (Way(), TwoSided(), Manifold(), None):
            kept = self.kept(way)
            self.assertEqual(kept.even(), ())
            kept.meet("a", "b")
            self.assertEqual(kept.even(), ())
        kept = self.kept(TwoSided())
        for number, (one, other) in enumerate((("a", "b"), ("c", "d"), ("e", "f"), ("f", "g"))):
            kept.meet(one, other)
        kept.even()
        self.assertEqual(sorted(kept.known.values()), [0, 0, 1, 1])
        # Behind leaving there are more hours than the net now needs: these are evened out over, too.
        kept = self.kept(Way()).meet_all(star(4))
        for number in range(3):
            kept.leave(number)
        for place in range(4, 14, 2):
            kept.meet(name_of(place), name_of(place + 1))
        kept.even()
        self.assertEqual(sorted(kept.known.values()), [0, 1, 2, 3, 4])

    def test_without_hours(self):
        for way in ways() + [None]:
            table = Table(way)
            self.assertEqual(table.even(), ())
            self.assertEqual(table.hours(), 0)
            self.assertEqual(table.text(), "")


class ApartTest(TableJudge):
    def answers(self, table, net, seed):
        """A history of a table, each answer of which is kept."""
        source = Random(seed)
        told = []
        standing = []
        for one, other in net[1]:
            told.append(table.meet(name_of(one), name_of(other)))
            standing.append(told[-1][0])
            if source.random() < 0.2:
                told.append(table.leave(standing.pop(source.randrange(len(standing)))))
            if source.random() < 0.1:
                told.append(table.even())
            told += [table.hours(), table.text(), table.day(name_of(one))]
        return told

    def test_the_same_again(self):
        for way in ways():
            for seed in range(4):
                net = drawn_two_sided(10, 30, seed)
                net = (10, tuple({frozenset(ends): ends for ends in net[1]}.values()))
                first = self.answers(Table(way), net, seed)
                self.answers(Table(way), (10, net[1][::-1]), seed + 1)
                self.assertEqual(self.answers(Table(way), net, seed), first)
                self.assertEqual(self.answers(Table(way.__class__()), net, seed), first)

    def test_asked_in_between(self):
        # One table is asked and refuses all the time, the other one is left alone.
        for way in ways():
            asked, alone = Table(way), Table(way)
            for one, other in complete_two_sided(4, 5)[1]:
                pair = (name_of(one), name_of(other))
                self.assertEqual(asked.meet(*pair), alone.meet(*pair))
                for time in range(2):
                    asked.hours(), asked.text(), asked.day(pair[0]), asked.hour(0)
                    self.assert_refused(NoName, lambda: asked.meet("new", "new"), {})
                    self.assert_refused(NoName, lambda: asked.meet("new", None), {})
                    self.assert_refused(NoMeeting, lambda: asked.leave(None), {})
            self.assertEqual(asked.even(), alone.even())
            self.assertEqual(asked.text(), alone.text())

    def test_two_tables(self):
        for way in ways() + [None]:
            one, other = self.kept(way), self.kept(way)
            one.meet_all(line(6))
            self.assertEqual(other.table.text(), "")
            self.assertEqual(other.table.hours(), 0)
            other.refuse(NoName, lambda: other.table.day(name_of(0)), {})
            other.refuse(NoMeeting, lambda: other.table.hour(0), {})
            other.meet("x", "y")
            self.assertEqual(other.made, 1)
            one.leave(0)
            other.check()
            one.even()
            other.check()
            one.refuse(NoName, lambda: one.table.day("ynot"), {})
            self.stir(one, 6, 15, 1)
            other.check()
            self.stir(other, 6, 15, 2)
            one.check()


if __name__ == "__main__":
    unittest.main()
