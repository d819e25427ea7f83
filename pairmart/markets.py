"""Markets: askers with strict lists, rooms with strict orders and seats, matchings, and what blocks them."""

from pairmart.errors import BadMatch, BadRoom
from pairmart.wishes import Wish, check_list


class Market:
    """Askers' wishes, rooms' wishes, and how many seats each room has."""

    def __init__(self, lists, orders, seats):
        if len(orders) != len(seats) or any([count < 0 for count in seats]):
            raise BadRoom("a room's seats can't be")
        self.askers = tuple([Wish(check_list(order, len(orders))) for order in lists])
        self.rooms = tuple([Wish(check_list(order, len(lists))) for order in orders])
        self.seats = tuple(seats)

    def size(self):
        """Return how many askers there are."""
        return len(self.askers)

    def likes(self, asker, room):
        """Tell whether an asker and a room both list each other."""
        return self.askers[asker].has(room) and self.rooms[room].has(asker)

    def pairs(self):
        """Return all (asker, room) that list each other, asker by asker, in the asker's order."""
        return tuple([
            (asker, room) for asker, wish in enumerate(self.askers) for room in wish.order if self.likes(asker, room)
        ])

    def with_list(self, asker, order):
        """Return a market in which an asker tells another list."""
        lists, orders, seats = self.shown()
        return Market(put_at(lists, asker, order), orders, seats)

    def with_order(self, room, order):
        """Return a market in which a room tells another order."""
        lists, orders, seats = self.shown()
        return Market(lists, put_at(orders, room, order), seats)

    def with_seats(self, room, count):
        """Return a market in which a room has another count of seats; BadRoom below nought."""
        lists, orders, seats = self.shown()
        return Market(lists, orders, put_at(seats, room, count))

    def shown(self):
        """Return (askers' lists, rooms' orders, seats)."""
        lists = tuple([wish.order for wish in self.askers])
        orders = tuple([wish.order for wish in self.rooms])
        return (lists, orders, self.seats)


def put_at(rows, place, row):
    """Return rows with another one at a place."""
    found = list(rows)
    found[place] = row
    return found


def check_match(market, match):
    """Return a matching, a room or None for each asker, as a tuple; BadMatch for one that can't be."""
    found = tuple(match)
    if len(found) != market.size():
        raise BadMatch("it is of another length")
    if any([room is not None and not 0 <= room < len(market.rooms) for room in found]):
        raise BadMatch("a room isn't there")
    for room, count in enumerate(market.seats):
        if len(those_in(found, room)) > count:
            raise BadMatch("too many are in a room")
    return found


def those_in(match, room):
    """Return the askers that a matching puts in a room, in order."""
    return tuple([asker for asker, had in enumerate(match) if had == room])


def unwanted(market, match):
    """Return the (asker, room) of a matching that don't list each other, in order."""
    return tuple([
        (asker, room) for asker, room in enumerate(match) if room is not None and not market.likes(asker, room)
    ])


def has_free_seat(market, match, room):
    """Tell whether a matching leaves a seat of a room free."""
    return len(those_in(match, room)) < market.seats[room]


def first_to_go(market, match, room):
    """Return whom a room would send away first: one that it doesn't list, else its worst, None for nobody."""
    inside = those_in(match, room)
    unlisted = [asker for asker in inside if not market.rooms[room].has(asker)]
    return unlisted[0] if unlisted else market.rooms[room].worst(inside)


def would_take(market, match, room, asker):
    """Tell whether a room would take an asker: it lists it, and has a free seat or somebody worse in one."""
    wish = market.rooms[room]
    if not wish.has(asker):
        return False
    if has_free_seat(market, match, room):
        return True
    last = first_to_go(market, match, room)
    # A list puts all it lists ahead of nothing, but a room without seats has nobody to send away.
    return last is not None and wish.better(asker, last)


def blocks(market, match):
    """Return the (asker, room) that both would rather be together, asker by asker, in the asker's order."""
    return tuple([
        (asker, room)
        for asker, wish in enumerate(market.askers)
        for room in wish.ahead_of(match[asker])
        if would_take(market, match, room, asker)
    ])


def is_stable(market, match):
    """Tell whether a matching puts none where it isn't wanted, and nothing blocks it."""
    found = check_match(market, match)
    return unwanted(market, found) == () and blocks(market, found) == ()


def settled(market, match, pair):
    """Return a matching with a blocking pair put together, the room's worst sent away where it is full."""
    asker, room = pair
    found = list(match)
    if not has_free_seat(market, match, room):
        gone = first_to_go(market, match, room)
        if gone is not None:
            found[gone] = None
    found[asker] = room
    return tuple(found)


def ranks_of(market, match):
    """Return each asker's rank of what it has, None for what it doesn't list."""
    return tuple([wish.rank(match[asker]) for asker, wish in enumerate(market.askers)])


def as_good(market, one, other):
    """Tell whether each asker has at least as good in one matching as in another."""
    return not any([wish.better(other[asker], one[asker]) for asker, wish in enumerate(market.askers)])


def filled(market, match):
    """Return how many seats of each room are taken."""
    return tuple([len(those_in(match, room)) for room in range(len(market.rooms))])
