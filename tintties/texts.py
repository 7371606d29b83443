"""Texts of timetables: read to names, a net and hours, shown again, and settled by a way."""

from tintties.errors import NoText, TooGreat
from tintties.evens import evened
from tintties.manifold import way_or_manifold
from tintties.nets import MOST_POINTS, MOST_TIES, most_of
from tintties.steps import behind
from tintties.tinted import tinted

LETTERS = "abcdefghijklmnopqrstuvwxyz"
FIGURES = "0123456789"
MOST_LETTERS = 8
MOST_FIGURES = 3


def is_word(thing, signs, most):
    # Sign by sign, as Python's own islower and isdigit take letters and figures of other scripts, too.
    return 1 <= len(thing) <= most and all([sign in signs for sign in thing])


def is_name(thing):
    return isinstance(thing, str) and is_word(thing, LETTERS, MOST_LETTERS)


def is_hour(word):
    return is_word(word, FIGURES, MOST_FIGURES) and (word == "0" or word[0] != "0")


def is_meeting(words):
    if not 2 <= len(words) <= 3 or not is_name(words[0]) or not is_name(words[1]):
        return False
    return words[0] != words[1] and (len(words) == 2 or is_hour(words[2]))


def rows_of(text):
    # Parted at its line ends, the text without signs would have one line instead of none.
    return [line.split(" ") for line in text.split("\n")] if text else []


def places_with(places, names):
    told = dict(places)
    for name in names:
        told.setdefault(name, len(told))
    return told


def read(text):
    if not isinstance(text, str):
        raise NoText()
    rows = rows_of(text)
    if not all([is_meeting(words) for words in rows]):
        raise NoText()
    names = []
    for words in rows:
        names.extend(words[:2])
    places = places_with({}, names)
    if len(places) > MOST_POINTS:
        raise TooGreat(MOST_POINTS)
    if len(rows) > MOST_TIES:
        raise TooGreat(MOST_TIES)
    ties = tuple([(places[words[0]], places[words[1]]) for words in rows])
    tints = tuple([int(words[2]) if len(words) == 3 else None for words in rows])
    return (tuple(places), (len(places), ties), tints)


def line_of(one, other, tint):
    return f"{one} {other}" if tint is None else f"{one} {other} {tint}"


def shown(names, net, tints):
    return "\n".join([line_of(names[ends[0]], names[ends[1]], tint) for ends, tint in zip(net[1], tints)])


def settled(text, way=None):
    chosen = way_or_manifold(way)
    told = read(text)
    net = told[1]
    tints = tinted(net, chosen)
    return shown(told[0], net, behind(net, tints, evened(net, tints, chosen.needed(most_of(net)))))
