"""Turns: from one stable matching to the next ones, all of them, and their better and worse ones."""

from pairmart.asks import ask_all, offer_all
from pairmart.errors import BadMatch, BadSize
from pairmart.markets import as_good, first_to_go, has_free_seat, is_stable

MOST = 500


class Turn:
    """Askers in a ring, each going to the room of the one told next behind it."""

    def __init__(self, askers, rooms):
        self.askers = tuple(askers)
        self.rooms = tuple(rooms)

    def shown(self):
        """Return ((asker, room it goes to) from the lowest asker on)."""
        rows = tuple(zip(self.askers, self.rooms))
        start = self.askers.index(min(self.askers))
        return rows[start:] + rows[:start]


def next_room(market, match, asker):
    """Return the next worse room that would take an asker for its worst; None for none ahead of a free seat."""
    wish = market.askers[asker]
    for room in wish.order:
        if wish.better(match[asker], room) and market.rooms[room].has(asker):
            if has_free_seat(market, match, room):
                return None
            last = first_to_go(market, match, room)
            if last is not None and market.rooms[room].better(asker, last):
                return room
    return None


def next_asker(market, match, asker):
    """Return who would have to go from an asker's next room, None where it has none."""
    room = next_room(market, match, asker)
    return None if room is None else first_to_go(market, match, room)


def ring_from(points, start):
    """Return the ring that pointing leads round from a start back to it, () where it doesn't lead back."""
    ring = [start]
    here = points[start]
    while here is not None and here not in ring:
        ring.append(here)
        here = points[here]
    return tuple(ring) if here == start else ()


def turns(market, match):
    """Return the rings that may turn in a stable matching, by their lowest askers."""
    points = [next_asker(market, match, asker) for asker in range(market.size())]
    rings = [ring_from(points, start) for start in range(market.size())]
    # Each ring is found from each of its askers: it is kept where it is found from the lowest one.
    lowest = [ring for start, ring in enumerate(rings) if ring != () and start == min(ring)]
    return tuple([Turn(ring, [next_room(market, match, asker) for asker in ring]) for ring in lowest])


def turned(match, turn):
    """Return a matching in which a ring has turned."""
    found = list(match)
    for asker, room in turn.shown():
        found[asker] = room
    return tuple(found)


def all_stable(market):
    """Return all stable matchings, the askers' best first, then by how they are reached, ring by ring; BadSize."""
    found = [ask_all(market)]
    place = 0
    while place < len(found):
        match = found[place]
        for turn in turns(market, match):
            other = turned(match, turn)
            if other not in found:
                found.append(other)
        if len(found) > MOST:
            raise BadSize("there are too many stable matchings")
        place += 1
    return tuple(found)


def better_of(market, one, other):
    """Return what gives each asker the better of two stable matchings; BadMatch for one that isn't stable."""
    must_be_stable(market, one, other)
    return tuple([
        one[asker] if wish.better(one[asker], other[asker]) else other[asker]
        for asker, wish in enumerate(market.askers)
    ])


def worse_of(market, one, other):
    """Return what gives each asker the worse of two stable matchings; BadMatch."""
    must_be_stable(market, one, other)
    return tuple([
        other[asker] if wish.better(one[asker], other[asker]) else one[asker]
        for asker, wish in enumerate(market.askers)
    ])


def must_be_stable(market, one, other):
    """Refuse with BadMatch matchings that aren't stable."""
    if not is_stable(market, one) or not is_stable(market, other):
        raise BadMatch("a matching isn't stable")


def way_down(market):
    """Return matchings from the askers' best to the rooms', each by the first ring that may turn."""
    found = [ask_all(market)]
    rings = turns(market, found[-1])
    while rings != ():
        found.append(turned(found[-1], rings[0]))
        rings = turns(market, found[-1])
    return tuple(found)


def sure_pairs(market):
    """Return the (asker, room) that are together in every stable matching, in order of their numbers."""
    # What an asker has in any stable matching lies between its best one and its worst one.
    worst = offer_all(market)
    return tuple([
        (asker, room) for asker, room in enumerate(ask_all(market)) if room is not None and worst[asker] == room
    ])


def can_pairs(market):
    """Return the (asker, room) that are together in some stable matching, in order of their numbers."""
    pairs = [(asker, room) for match in all_stable(market) for asker, room in enumerate(match) if room is not None]
    return tuple(sorted(set(pairs)))


def middle(market):
    """Return what gives each asker the middle one, the better of two, of what it has in all stable matchings."""
    found = all_stable(market)
    return tuple([
        middle_of(wish, [match[asker] for match in found]) for asker, wish in enumerate(market.askers)
    ])


def middle_of(wish, rooms):
    """Return the middle one of rooms, or nothings, by a list, the better of two."""
    places = sorted([wish.rank(room) for room in rooms])
    place = places[(len(places) - 1) // 2]
    return wish.order[place] if place < len(wish.order) else None


def fairest(market):
    """Return the stable matching of the least sum of both sides' ranks, the first of all_stable; ranks from one."""
    return min(all_stable(market), key=lambda match: sum_of_ranks(market, match))


def sum_of_ranks(market, match):
    """Return the sum of the ranks, from one, that askers and rooms give each other in a matching."""
    pairs = [(asker, room) for asker, room in enumerate(match) if room is not None]
    return sum([market.askers[asker].rank(room) + market.rooms[room].rank(asker) + 2 for asker, room in pairs])


def is_above(market, one, other):
    """Tell whether each asker has in one matching at least as good as in another, and they are not one."""
    return tuple(one) != tuple(other) and as_good(market, one, other)
