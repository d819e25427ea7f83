"""Flows: askers for several rooms and rooms for several askers, with least counts, or a lot that shows none can be."""

from pairmart.errors import BadPaper, BadSize
from pairmart.ways import reached_from, way_to


class Pipes:
    """Pipes between places, how much each lets through and how much goes through it."""

    def __init__(self, many):
        self.places = many
        self.room = {}
        self.going = {}
        self.near = {one: {} for one in range(many)}

    def lay(self, one, other, room):
        """Lay a pipe; BadSize for one below nought."""
        if room < 0:
            raise BadSize("a pipe lets less than nothing through")
        # Two pipes between the same places let through what both do.
        self.room[(one, other)] = self.room.get((one, other), 0) + room
        self.going.setdefault((one, other), 0)
        self.near[one][other] = True
        self.near[other][one] = True

    def more_room(self, one, other):
        """Return how much more may go from one place to another."""
        # What goes the other way may be taken back.
        free = self.room.get((one, other), 0) - self.going.get((one, other), 0)
        return free + self.going.get((other, one), 0)

    def ways_from(self, one):
        """Return the places that more may go to from one, in order."""
        return [other for other in sorted(self.near[one]) if self.more_room(one, other) > 0]

    def way(self, start, end):
        """Return a shortest way along which more may go, None for none."""
        came = self.come_to(start)
        return list(way_to(came, end)) if end in came else None

    def come_to(self, start):
        """Return a table of the places that more may go to from a start to those ahead of them."""
        return reached_from([self.ways_from(one) for one in range(self.places)], start)

    def push(self, one, other, much):
        """Let more go from one place to another, what goes the other way taken back first."""
        back = min(much, self.going.get((other, one), 0))
        if back > 0:
            self.going[(other, one)] -= back
        if much > back:
            self.going[(one, other)] += much - back

    def send(self, start, end):
        """Send as much as can be; return how much in all."""
        sent = 0
        way = self.way(start, end)
        while way is not None and len(way) > 1:
            steps = [(way[place], way[place + 1]) for place in range(len(way) - 1)]
            much = min([self.more_room(one, other) for one, other in steps])
            for one, other in steps:
                self.push(one, other, much)
            sent += much
            way = self.way(start, end)
        return sent

    def reached(self, start):
        """Return the places that more may go to from a start, over others, it too, in order."""
        return tuple(sorted(self.come_to(start)))


class Wants:
    """Who lists whom, the least and most of each asker and of each room."""

    def __init__(self, lists, asker_bounds, room_bounds):
        self.lists = tuple([tuple(row) for row in lists])
        self.askers = tuple([tuple(bounds) for bounds in asker_bounds])
        self.rooms = tuple([tuple(bounds) for bounds in room_bounds])
        bounds = self.askers + self.rooms
        if len(self.askers) != len(self.lists) or any([not 0 <= least <= most_of for least, most_of in bounds]):
            raise BadSize("the bounds can't be")
        if any([not 0 <= room < len(self.rooms) for row in self.lists for room in row]):
            raise BadSize("a room isn't there")

    def linked(self, askers, rooms):
        """Return how many lists' rooms there are from some askers to some rooms."""
        return len([1 for asker in askers for room in sorted(set(self.lists[asker])) if room in rooms])


def laid(wants, least):
    """Return pipes of wants with bounds of most, or with least turned to what must go; places and how much must go.

    Askers stand first among the places, then rooms, then the two places from which and to which is sent.
    """
    askers, rooms = len(wants.askers), len(wants.rooms)
    start, end = askers + rooms, askers + rooms + 1
    pipes = Pipes(askers + rooms + 3)
    for asker, row in enumerate(wants.lists):
        for room in sorted(set(row)):
            pipes.lay(asker, askers + room, 1)
    if not least:
        lay_most(pipes, wants, start, end)
        return (pipes, (start, end), 0)
    return (pipes, (start, end), lay_least(pipes, wants, start, end))


def lay_most(pipes, wants, start, end):
    """Lay pipes from a start to each asker, and from each room to an end, by their most counts."""
    for asker, (_, most_of) in enumerate(wants.askers):
        pipes.lay(start, asker, most_of)
    for room, (_, most_of) in enumerate(wants.rooms):
        pipes.lay(len(wants.askers) + room, end, most_of)


def lay_least(pipes, wants, start, end):
    """Lay pipes so that all that can be sent is sent just where least counts are kept; return how much must go."""
    # All goes round over a hub; what must go through a pipe comes from the start and leaves to the end instead.
    hub = end + 1
    must = 0
    for asker, (least, most_of) in enumerate(wants.askers):
        pipes.lay(hub, asker, most_of - least)
        pipes.lay(start, asker, least)
        pipes.lay(hub, end, least)
        must += least
    for room, (least, most_of) in enumerate(wants.rooms):
        pipes.lay(len(wants.askers) + room, hub, most_of - least)
        pipes.lay(len(wants.askers) + room, end, least)
        pipes.lay(start, hub, least)
        must += least
    return must


def pairs_of(wants, pipes):
    """Return the (asker, room) that go together, in order."""
    askers = len(wants.askers)
    return tuple([
        (asker, room)
        for asker in range(askers)
        for room in range(len(wants.rooms))
        if pipes.going.get((asker, askers + room), 0) > 0
    ])


def reached_in(wants, pipes, start):
    """Return (askers, rooms) that more may go to from a start."""
    askers = len(wants.askers)
    places = pipes.reached(start)
    mine = tuple([place for place in places if place < askers])
    return (mine, tuple([place - askers for place in places if askers <= place < askers + len(wants.rooms)]))


def most(wants):
    """Return the (asker, room), as many as the most bounds let by."""
    pipes, (start, end), _ = laid(wants, False)
    pipes.send(start, end)
    return pairs_of(wants, pipes)


def most_cut(wants):
    """Return (askers, rooms) that show that there are no more: the askers still to be reached, and the rooms."""
    pipes, (start, end), _ = laid(wants, False)
    pipes.send(start, end)
    return reached_in(wants, pipes, start)


def sum_of(bounds, places, place, inside):
    """Return the sum of least counts, at place nought, or most counts, at place one, of those in or out of some."""
    return sum([bound[place] for one, bound in enumerate(bounds) if (one in places) == inside])


def links_out(wants, cut):
    """Return how many links there are from a cut's askers to the other rooms."""
    askers, rooms = cut
    inside = [asker for asker in range(len(wants.askers)) if asker in askers]
    return wants.linked(inside, [room for room in range(len(wants.rooms)) if room not in rooms])


def cut_worth(wants, cut):
    """Return how many pairs a cut lets by at most."""
    askers, rooms = cut
    mine = sum_of(wants.askers, askers, 1, False)
    return mine + sum_of(wants.rooms, rooms, 1, True) + links_out(wants, cut)


def with_least(wants):
    """Return the (asker, room) that keep all bounds, None where none do."""
    pipes, (start, end), must = laid(wants, True)
    return pairs_of(wants, pipes) if pipes.send(start, end) == must else None


def short_cut(wants):
    """Return (askers, rooms) that show that no pairs keep all bounds, None where some do."""
    pipes, (start, end), must = laid(wants, True)
    return reached_in(wants, pipes, start) if pipes.send(start, end) < must else None


def keeps(wants, pairs):
    """Tell whether pairs are of the lists, each once, and keep all bounds."""
    told = [(asker, room) for asker, room in pairs]
    if len(set(told)) != len(told):
        return False
    if any([not 0 <= asker < len(wants.lists) or room not in wants.lists[asker] for asker, room in told]):
        return False
    return is_within(wants.askers, [asker for asker, _ in told]) and is_within(wants.rooms, [room for _, room in told])


def is_within(bounds, ones):
    """Tell whether each one of a side is told as often as its bounds ask."""
    return all([least <= ones.count(one) <= most_of for one, (least, most_of) in enumerate(bounds)])


def check_cut(wants, cut):
    """Return True where askers and rooms show that no pairs keep all bounds, by either of two counts; BadPaper."""
    askers, rooms = cut
    if any([not 0 <= asker < len(wants.askers) for asker in askers]):
        raise BadPaper("an asker isn't there")
    if any([not 0 <= room < len(wants.rooms) for room in rooms]):
        raise BadPaper("a room isn't there")
    if any([len(dict([(one, 1) for one in side])) != len(side) for side in cut]):
        raise BadPaper("one is told twice")
    links = links_out(wants, cut)
    low_in = sum_of(wants.askers, askers, 0, True)
    high_in = sum_of(wants.rooms, rooms, 1, True) + links
    low_out = sum_of(wants.rooms, rooms, 0, False)
    high_out = sum_of(wants.askers, askers, 1, False) + links
    if low_in <= high_in and low_out <= high_out:
        raise BadPaper("the cut doesn't show it")
    return True
