"""Tables: timetables to which meetings come, and from which they leave, one by one."""

from tintties.errors import NoMeeting, NoName, TooGreat
from tintties.evens import evened
from tintties.manifold import way_or_manifold
from tintties.nets import MOST_POINTS, MOST_TIES, is_number, most_of
from tintties.steps import behind
from tintties.texts import is_name, places_with, shown


class Table:
    def __init__(self, way=None):
        self.way = way_or_manifold(way)
        # Names to their points, and of the meetings that stand, numbers to their ties and to their hours, rising.
        self.places = {}
        self.ties = {}
        self.given = {}
        self.made = 0
        self.crowd = 0

    def meet(self, one, other):
        if not is_name(one) or not is_name(other) or one == other:
            raise NoName()
        places = places_with(self.places, (one, other))
        if len(places) > MOST_POINTS:
            raise TooGreat(MOST_POINTS)
        if len(self.ties) >= MOST_TIES:
            raise TooGreat(MOST_TIES)
        ends = (places[one], places[other])
        net = (len(places), tuple(self.ties.values()) + (ends,))
        tints = tuple(self.given.values()) + (None,)
        crowd = max(self.crowd, most_of(net))
        # The way refuses here what it refuses when asked: so nothing is kept ahead of this.
        steps = self.way.put(net, tints, len(self.ties), self.way.needed(crowd))
        number = self.made
        self.places = places
        self.crowd = crowd
        self.made = number + 1
        self.ties[number] = ends
        return (number, self.moved_to(behind(net, tints, steps)))

    def moved_to(self, tints):
        # A meeting that has had no hour so far gets one, but isn't moved.
        moved = [number for number, tint in zip(self.ties, tints) if self.given.get(number, tint) != tint]
        self.given = dict(zip(self.ties, tints))
        return tuple(moved)

    def leave(self, number):
        self.check(number)
        self.ties.pop(number)
        self.given.pop(number)

    def check(self, number):
        # The kind is asked first, as True and 1.0 would find meeting 1, and a list can't be looked for.
        if not is_number(number) or number not in self.given:
            raise NoMeeting()

    def hour(self, number):
        self.check(number)
        return self.given[number]

    def day(self, name):
        if not is_name(name) or name not in self.places:
            raise NoName()
        point = self.places[name]
        return tuple(sorted([(self.given[number], number) for number, ends in self.ties.items() if point in ends]))

    def hours(self):
        return self.way.needed(self.crowd)

    def net_now(self):
        return (len(self.places), tuple(self.ties.values()))

    def even(self):
        net = self.net_now()
        tints = tuple(self.given.values())
        return self.moved_to(behind(net, tints, evened(net, tints, self.hours())))

    def text(self):
        return shown(tuple(self.places), self.net_now(), tuple(self.given.values()))
