import re
import unittest
from random import Random

from samples import (
    NO_NAMES, NO_NUMBERS, WAYS, Judge, clean, complete, complete_two_sided, doubled_nets, drawn, drawn_tints, fat_nets,
    great_fat_nets, great_nets, great_two_sided_nets, line, most_at_a_point, name_of, needed_by_hand, nets, odd_nets,
    plain_nets, ring, several, spread_of, star, suits, two_sided_nets, written,
)
from tintties.errors import NoText, NotPlain, NotTwoSided, TooGreat
from tintties.fans import Plain
from tintties.manifold import Manifold
from tintties.sidedway import TwoSided
from tintties.texts import read, settled, shown
from tintties.ways import Way

LINE = re.compile(r"([a-z]{1,8}) ([a-z]{1,8})(?: (0|[1-9][0-9]{0,2}))?", re.ASCII)


def read_by_hand(text):
    """None, where it is no timetable's text; how many names and lines it has isn't asked."""
    lines = text.split("\n") if text != "" else []
    found = [LINE.fullmatch(line) for line in lines]
    if not all(found) or any(match[1] == match[2] for match in found):
        return None
    names = []
    for match in found:
        names += [name for name in match.group(1, 2) if name not in names]
    ties = tuple((names.index(match[1]), names.index(match[2])) for match in found)
    return tuple(names), (len(names), ties), tuple(None if match[3] is None else int(match[3]) for match in found)


def drawn_hours(net, seed):
    source = Random(seed)
    return [source.choice((None, 0, 1, 9, 10, 99, 100, 999, source.randrange(1000))) for tie in net[1]]


def texts():
    found = ["", "a b", "a b 0", "b a 999", "a b\nb a", "a b 7\nc d\nb c 7", "abcdefgh z 10\nz abcdefgh 10\nq z"]
    for seed, net in enumerate(nets() + fat_nets() + great_nets()):
        found.append("\n".join(written(net, drawn_hours(net, seed))))
        found.append("\n".join(written(net, [None] * len(net[1]))))
        found.append("\n".join(written(net, drawn_tints(net, 1000, seed))))
    return found


def sixty(lines):
    """So many lines of just sixty names."""
    return written((60, tuple((place % 60, (place + 1) % 60) for place in range(lines))), [None] * lines)


WRONG_LINES = (
    "", " ", "a", "a ", " a", "a  b", "a b ", " a b", "a b  1", "a b 1 ", "a b 1 2", "a b c", "a b c d", "a b 1 c",
    "a 1", "1 a", "1 2", "a 1 b", "1 a b", "a a", "a a 1", "zz zz 999", "A b", "a B", "aB c", "a\tb", "a b\t1",
    "a\u00a0b", "a b\u00a01", "a\u3000b", "a,b", "a b,1", "ninelette b", "a ninelette", "a ninelette 1",
    "abcdefghi abcdefgh", "a b 00", "a b 01", "a b 007", "a b 000", "a b +1", "a b -1", "a b -0", "a b 1000",
    "a b 1001", "a b 9999", "a b 0999", "a b 1.0", "a b 1_0", "a b 0x1", "a b 1e2", "a b \u0661", "a b \u00b2",
    "a b 1\u00b2", "a b \uff11", "a b \u00bd", "a b None", "a b none", "\u00e4 b", "a \u00e4", "a \u00df", "a \u03b1",
    "a b\r", "a\rb", "a b\x0b", "a b\x0c", "a b\x1c", "a b\x85", "a b\u2028", "a b\x00", "a\x00 b", "\ufeffa b",
    "a b ;", "a - b", "a b_", "a b 1a", "a b a1", "a b 12 ", "a{ b", "a `", "a b :", "a b /", "a b 1:", "a b 1/",
    "ab" * 5 + " c", "a b 12345678901234567890",
)


class ReadTest(Judge):
    def assert_read(self, text):
        told = read(text)
        self.assertEqual(told, read_by_hand(text))
        self.assertIs(type(told), tuple)
        names, net, tints = told
        self.assertIs(type(names), tuple)
        self.assertEqual({type(name) for name in names} - {str}, set())
        self.assertIs(type(net), tuple)
        self.assertIs(type(net[0]), int)
        self.assertIs(type(net[1]), tuple)
        for ends in net[1]:
            self.assert_numbers(ends)
        self.assertIs(type(tints), tuple)
        self.assertEqual({type(tint) for tint in tints} - {int, type(None)}, set())
        return told

    def test_texts(self):
        for text in texts():
            self.assert_read(text)

    def test_written_out(self):
        self.assertEqual(self.assert_read(""), ((), (0, ()), ()))
        self.assertEqual(self.assert_read("b a"), (("b", "a"), (2, ((0, 1),)), (None,)))
        self.assertEqual(self.assert_read("a b 0"), (("a", "b"), (2, ((0, 1),)), (0,)))
        self.assertEqual(
            self.assert_read("zoe ann 7\nann bob\nbob zoe 7\nann zoe 999\ncy bob 10"),
            (("zoe", "ann", "bob", "cy"), (4, ((0, 1), (1, 2), (2, 0), (1, 0), (3, 2))), (7, None, 7, 999, 10)),
        )

    def test_hours(self):
        for hour in range(1000):
            self.assertEqual(read(f"a b {hour}")[2], (hour,))
        for hour in list(range(1000, 1020)) + [9999, 10000, 10 ** 30]:
            self.assert_refused(NoText, lambda: read(f"a b {hour}"), {})

    def test_names(self):
        for letters in range(1, 9):
            for letter in "abcdefghijklmnopqrstuvwxyz":
                self.assertEqual(read(f"{letter * letters} other 1")[0], (letter * letters, "other"))
                self.assertEqual(read(f"other {letter * letters}")[0], ("other", letter * letters))
        for letters in (9, 10, 100):
            self.assert_refused(NoText, lambda: read("a" * letters + " b"), {})
            self.assert_refused(NoText, lambda: read("b " + "a" * letters), {})

    def test_wrong_lines(self):
        for wrong in WRONG_LINES:
            others = (wrong + "\na b", "a b\n" + wrong, "a b 1\n" + wrong + "\nb c") + ((wrong,) if wrong else ())
            for text in others:
                self.assertIsNone(read_by_hand(text), repr(text))
                self.assert_refused(NoText, lambda: read(text), {})

    def test_every_sign(self):
        for number in list(range(0x250)) + [0x661, 0x0430, 0x2009, 0x2028, 0x3000, 0xfeff, 0xff11, 0xff41, 0x1d41a, 0x1d7ce]:
            sign = chr(number)
            for text in (
                f"a{sign} bc", f"bc {sign}a", f"bc a{sign} 1", f"a b 1{sign}", f"a b {sign}", f"a b {sign}1", f"a b{sign}b c", sign,
                f"a b{sign}1", f"a{sign}b", f"a b{sign}", f"{sign}a b",
            ):
                if read_by_hand(text) is None:
                    self.assert_refused(NoText, lambda: read(text), {})
                else:
                    self.assert_read(text)

    def test_line_ends(self):
        for text in (
            "\n", "a b\n", "\na b", "a b\n\nb c", "a b 1\n", "\n\n", "a b\r\nb c", "a b\rb c", "a b\n ", "a b\x85b c",
            "a b\u2028b c", "a b\n\r", "a\nb", "a b\n1", "a\nb 1", " \n", "a b \nb c", "a b\n b c",
        ):
            self.assertIsNone(read_by_hand(text), repr(text))
            self.assert_refused(NoText, lambda: read(text), {})

    def test_no_names(self):
        for thing in NO_NAMES:
            if isinstance(thing, str):
                for text in (f"{thing} z 3", f"z {thing} 3", f"a z\nz {thing} 3", f"{thing} z 3\na b"):
                    self.assertIsNone(read_by_hand(text), repr(text))
                    self.assert_refused(NoText, lambda: read(text), {})

    def test_one_sign_changed(self):
        source = Random(11)
        signs = "ab zA19 0\n\t\r-_\u00e4\u0661\u00a0"
        told = set()
        for time in range(4000):
            text = source.choice(("a b", "a b 10\nb c", "ab c 1\nc ab 99\nd e", "abcdefgh b 100\nb c 0"))
            for change in range(source.randrange(1, 3)):
                place = source.randrange(len(text) + 1)
                text = text[:place] + source.choice(signs) * source.randrange(2) + text[place + source.randrange(2):]
            if read_by_hand(text) is None:
                self.assert_refused(NoText, lambda: read(text), {})
            else:
                self.assert_read(text)
            told.add(read_by_hand(text) is None)
        self.assertEqual(told, {True, False})

    def test_things_that_are_no_texts(self):
        for thing in NO_NUMBERS + NO_NAMES + (b"a b", bytearray(b"a b 1"), ["a b"], ("a", "b"), [["a", "b"]], 7, -1, 10 ** 30):
            if not isinstance(thing, str):
                self.assert_refused(NoText, lambda: read(thing), {})

    def test_more_than_sixty_names(self):
        self.assertEqual(read("\n".join(sixty(60)))[1][0], 60)
        for points in (61, 62, 120):
            lines = written(ring(points), [3] * points)
            self.assert_refused(TooGreat, lambda: read("\n".join(lines)), {"most": 60})
            self.assert_refused(TooGreat, lambda: read("\n".join(lines + ["a b"] * 300)), {"most": 60})
            self.assert_refused(TooGreat, lambda: read("\n".join(["a b"] * 300 + lines)), {"most": 60})
        lines = sixty(60)
        self.assert_refused(TooGreat, lambda: read("\n".join(lines + ["new " + name_of(0)])), {"most": 60})
        self.assert_refused(TooGreat, lambda: read("\n".join(lines + [name_of(0) + " new"])), {"most": 60})
        self.assert_refused(TooGreat, lambda: read("\n".join(["newa newb"] + lines)), {"most": 60})

    def test_more_than_two_hundred_lines(self):
        for lines in (["a b"] * 200, sixty(200)):
            self.assert_read("\n".join(lines))
            for more in (1, 2, 300):
                self.assert_refused(TooGreat, lambda: read("\n".join(lines + lines[:1] * more)), {"most": 200})

    def test_no_text_goes_ahead(self):
        great = (written(ring(61), [None] * 61), ["a b"] * 201, written(ring(100), [None] * 100) * 3)
        for lines in great:
            for wrong in ("", "a", "a a", "a b 1000", "a  b", "A b"):
                for place in (0, 30, len(lines)):
                    text = "\n".join(lines[:place] + [wrong] + lines[place:])
                    self.assert_refused(NoText, lambda: read(text), {})
        self.assert_refused(NoText, lambda: read("\n".join(great[0]) + "\n"), {})

    def test_long_texts(self):
        text = "\n".join(["abcdefgh hgfedcba 999"] * 909)
        self.assertLessEqual(len(text), 20000)
        self.assert_refused(TooGreat, lambda: read(text), {"most": 200})
        self.assert_refused(NoText, lambda: read("a" * 20000), {})
        self.assert_refused(NoText, lambda: read("\n" * 20000), {})
        self.assert_refused(NoText, lambda: read("a b " + "1" * 19000), {})
        many_names = "\n".join(f"{name_of(place)} {name_of(place + 1)}" for place in range(0, 600, 2))
        self.assert_refused(TooGreat, lambda: read(many_names), {"most": 60})

    def test_asked_again(self):
        first = [read(text) for text in texts()]
        for wrong in WRONG_LINES[1:]:
            self.assert_refused(NoText, lambda: read(wrong), {})
        self.assertEqual([read(text) for text in reversed(texts())][::-1], first)


class ShownTest(Judge):
    def test_what_is_read_is_shown(self):
        for text in texts():
            told = shown(*read(text))
            self.assertIs(type(told), str)
            self.assertEqual(told, text)

    def test_written_out(self):
        self.assertEqual(shown((), (0, ()), ()), "")
        self.assertEqual(shown(("ann", "bob"), (2, ()), ()), "")
        self.assertEqual(shown(("ann", "bob"), (2, ((1, 0),)), (None,)), "bob ann")
        self.assertEqual(shown(("ann", "bob"), (2, ((0, 1),)), (0,)), "ann bob 0")
        self.assertEqual(shown(("a", "b", "c"), (3, ((2, 1), (0, 2))), (999, None)), "c b 999\na c")

    def test_asked_again(self):
        asked = [read(text) for text in texts()]
        first = [shown(*question) for question in asked]
        self.assertEqual([shown(*question) for question in reversed(asked)][::-1], first)


class SettledTest(Judge):
    def assert_settled(self, text, way, told):
        names, net, hours = read_by_hand(text)
        again = read_by_hand(told)
        self.assertIsNotNone(again)
        self.assertEqual(again[:2], (names, net))
        tints = again[2]
        self.assertNotIn(None, tints)
        self.assertTrue(clean(net, tints))
        many = needed_by_hand(way, most_at_a_point(net))
        for tint in tints:
            self.assertIn(tint, range(many))
        self.assertLessEqual(spread_of(tints, many), 1)
        self.assertIs(type(told), str)

    def assert_settled_by(self, net, way, seed=0):
        bare = "\n".join(written(net, [None] * len(net[1])))
        told = settled(bare, way)
        self.assert_settled(bare, way, told)
        for hours in (drawn_hours(net, seed), drawn_tints(net, 1000, seed), [7] * len(net[1])):
            self.assertEqual(settled("\n".join(written(net, hours)), way), told)
        self.assertEqual(settled(told, way), told)

    def test_each_way(self):
        for seed, net in enumerate(nets() + fat_nets() + great_nets() + great_fat_nets()[:-2] + [line(9), star(12)]):
            for make in WAYS:
                if len(net[1]) <= 200 and suits(make(), net):
                    self.assert_settled_by(net, make(), seed)

    def test_nets_of_two_sides_and_plain_ones(self):
        for net in two_sided_nets() + great_two_sided_nets()[:-1]:
            self.assert_settled_by(net, TwoSided())
        for net in plain_nets() + [complete(20), complete_two_sided(14, 14)]:
            self.assert_settled_by(net, Plain())

    def test_way_left_out(self):
        for text in texts():
            told = settled(text)
            self.assert_settled(text, None, told)
            self.assertEqual(settled(text, None), told)
            self.assertEqual(settled(text, way=Manifold()), told)

    def test_without_signs(self):
        for way in (None, Way(), TwoSided(), Plain(), Manifold()):
            self.assertEqual(settled("", way), "")
        self.assertEqual(settled(""), "")

    def test_written_out(self):
        for way in (None, Way(), TwoSided(), Manifold()):
            self.assertEqual(settled("a b", way), "a b 0")
            self.assertEqual(settled("a b 999", way), "a b 0")
        self.assertIn(settled("a b", Plain()), ("a b 0", "a b 1"))
        # As many meetings as hours, so each hour has just one.
        hours = [line.split()[2] for line in settled("a b\nb c\nc a\nb a").split("\n")]
        self.assertEqual(sorted(hours), ["0", "1", "2", "3"])

    def test_refused_as_when_read(self):
        for make in WAYS + (None,):
            way = make and make()
            for wrong in WRONG_LINES + ("a b\n", "\n", "a b\n\nc d") + NO_NUMBERS + NO_NAMES:
                if not isinstance(wrong, str) or read_by_hand(wrong) is None:
                    self.assert_refused(NoText, lambda: settled(wrong, way), {})
            for lines in (["a b"] * 201, sixty(201)):
                self.assert_refused(TooGreat, lambda: settled("\n".join(lines), way), {"most": 200})
            for points in (61, 63):
                lines = written(ring(points), [None] * points)
                self.assert_refused(TooGreat, lambda: settled("\n".join(lines), way), {"most": 60})
                self.assert_refused(TooGreat, lambda: settled("\n".join(lines * 4), way), {"most": 60})
            self.assert_refused(NoText, lambda: settled("\n".join(["a b"] * 201 + ["a"]), way), {})

    def test_refused_by_the_way(self):
        for seed, net in enumerate(odd_nets()):
            if len(net[1]) <= 200 and net[0] <= 60:
                for hours in ([None] * len(net[1]), drawn_hours(net, seed)):
                    text = "\n".join(written(net, hours))
                    error = self.assert_refused(NotTwoSided, lambda: settled(text, TwoSided()))
                    self.assert_odd_ring(read_by_hand(text)[1], error)
        for seed, net in enumerate(doubled_nets()):
            if len(net[1]) <= 200 and net[0] <= 60:
                text = "\n".join(written(net, drawn_hours(net, seed)))
                self.assert_pair(read_by_hand(text)[1], self.assert_refused(NotPlain, lambda: settled(text, Plain())))
        error = self.assert_refused(NotPlain, lambda: settled("a b\nb c\nb a", Plain()), {"pair": (0, 2)})
        self.assertEqual(error.pair, (0, 2))
        error = self.assert_refused(NotTwoSided, lambda: settled("x b\nb c\na c\nb a", TwoSided()))
        self.assertEqual(sorted(error.ring), [1, 2, 3])

    def test_asked_again(self):
        ways = [make() for make in WAYS]
        asked = [(text, way) for text in texts()[:120:2] for way in ways if suits(way, read_by_hand(text)[1])]
        asked += [("\n".join(written(drawn(9, 30, 1), [None] * 30)), None)]
        first = [settled(*question) for question in asked]
        self.assertEqual([settled(*question) for question in reversed(asked)][::-1], first)
        self.assertEqual([settled(text, way and way.__class__()) for text, way in asked], first)


if __name__ == "__main__":
    unittest.main()
