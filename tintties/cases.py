"""Searches for a full tinting, case by case, and the fewest tints of a small net, with paper."""

from tintties.bounds import bound, first_crowded
from tintties.errors import TooGreat
from tintties.nets import most_of, ties_at

MOST_SEARCH_TIES = 40


def not_barred(many, row):
    # A dict is asked faster than a long row, and tints that come twice in the row are in it once.
    out = dict([(tint, True) for tint in row])
    return tuple([tint for tint in range(many) if tint not in out])


class Search:
    def __init__(self, net, most):
        self.near = [ties_at(net, ends[0]) + ties_at(net, ends[1]) for ends in net[1]]
        self.most = most
        self.looked = 0

    def narrowed(self, left, tie, tint):
        # What is left is kept from one tinting to the next, as only ties that meet the new one lose a tint.
        rest = dict(left)
        rest.pop(tie)
        for near in self.near[tie]:
            if near in rest and tint in rest[near]:
                rest[near] = tuple([kept for kept in rest[near] if kept != tint])
        return rest

    def look(self, tints, left):
        # left has the bare ties alone, rising: so the first one with the fewest tints left is the lowest one.
        self.looked += 1
        if self.looked > self.most:
            raise TooGreat(self.most)
        if not left:
            return ("tints", tints)
        tie = min(left, key=lambda bare: len(left[bare]))
        if not left[tie]:
            return ("cases", ("stuck", tie))
        branches = []
        for tint in left[tie]:
            told = self.look(tints[:tie] + (tint,) + tints[tie + 1:], self.narrowed(left, tie, tint))
            if told[0] == "tints":
                return told
            branches.append((tint, told[1]))
        return ("cases", ("tie", tie, tuple(branches)))


def search(net, many, barred=None, most=300):
    ties = len(net[1])
    if ties > MOST_SEARCH_TIES:
        raise TooGreat(MOST_SEARCH_TIES)
    rows = ((),) * ties if barred is None else barred
    left = dict([(tie, not_barred(many, row)) for tie, row in enumerate(rows)])
    return Search(net, most).look((None,) * ties, left)


def barred_at(net, point, many):
    # Whatever tints the ties at one point have, they are unlike: so they may be called 0, 1 and so on.
    rows = [()] * len(net[1])
    for own, tie in enumerate(ties_at(net, point)):
        rows[tie] = tuple([tint for tint in range(many) if tint != own])
    return tuple(rows)


def fewest(net, most=300):
    lowest = bound(net)
    number = lowest[0]
    paper = lowest[1]
    if number == 0:
        return (0, (), None)
    point = first_crowded(net, most_of(net))
    told = search(net, number, barred_at(net, point, number), most)
    while told[0] == "cases":
        number += 1
        paper = told
        told = search(net, number, barred_at(net, point, number), most)
    return (number, told[1], paper)
