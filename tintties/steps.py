"""Steps: a chain turned, a tie tinted or made bare, each from one clean tinting to another."""

from tintties.chains import turned
from tintties.errors import NoStep, NotClean
from tintties.nets import is_below
from tintties.tintings import is_clean, is_tint


def is_turn_step(net, thing):
    if len(thing) != 4 or not is_below(thing[1], net[0]):
        return False
    return is_tint(thing[2]) and is_tint(thing[3]) and thing[2] != thing[3]


def is_tint_step(net, thing):
    return len(thing) == 3 and is_below(thing[1], len(net[1])) and is_tint(thing[2])


def is_bare_step(net, thing):
    return len(thing) == 2 and is_below(thing[1], len(net[1]))


def is_step(net, thing):
    # The word's kind is asked first, as a thing of another kind may be equal to whatever it likes.
    if not isinstance(thing, tuple) or len(thing) == 0 or not isinstance(thing[0], str):
        return False
    if thing[0] == "turn":
        return is_turn_step(net, thing)
    if thing[0] == "tint":
        return is_tint_step(net, thing)
    return thing[0] == "bare" and is_bare_step(net, thing)


def done(net, tints, step):
    if not is_step(net, step):
        raise NoStep()
    if step[0] == "turn":
        return turned(net, tints, step[1], step[2], step[3])
    row = list(tints)
    row[step[1]] = step[2] if step[0] == "tint" else None
    if not is_clean(net, row):
        raise NotClean()
    return tuple(row)


def walked(net, tints, steps):
    told = []
    now = tints
    for step in steps:
        now = done(net, now, step)
        told.append(now)
    return told


def behind(net, tints, steps):
    return ([tints] + walked(net, tints, steps))[-1]
