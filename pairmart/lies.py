"""Lies: what askers and rooms get by telling other wishes than theirs."""

from pairmart.asks import ask_all
from pairmart.errors import BadSize
from pairmart.markets import those_in
from pairmart.wishes import Wish, all_lists


def had_when_told(market, asker, order):
    """Return the room that an asker has when it tells a list."""
    return ask_all(market.with_list(asker, order))[asker]


def reached(market, asker):
    """Return the (list told, room had) of an asker for all lists it could tell, in order; BadSize past five rooms."""
    return tuple([(order, had_when_told(market, asker, order)) for order in all_lists(len(market.rooms))])


def best_lie(market, asker):
    """Return (list, room) of the first lie that gets an asker better by its true list, None where none does."""
    had = ask_all(market)[asker]
    for order, room in reached(market, asker):
        if market.askers[asker].better(room, had):
            return (order, room)
    return None


def lists_of_lot(market, lot):
    """Return all ways in which a lot of askers could tell lists; BadSize for more than two askers or three rooms."""
    if len(lot) > 2 or len(market.rooms) > 3:
        raise BadSize("there are too many ways")
    ways = [()]
    for _ in lot:
        ways = [way + (order,) for way in ways for order in all_lists(len(market.rooms))]
    return ways


def with_lists(market, lot, way):
    """Return a market in which each of a lot tells its list of a way."""
    told = market
    for asker, order in zip(lot, way):
        told = told.with_list(asker, order)
    return told


def lot_lie(market, lot):
    """Return lists by which all of a lot get better by their true lists, the first, None where none do; BadSize."""
    had = ask_all(market)
    for way in lists_of_lot(market, lot):
        got = ask_all(with_lists(market, lot, way))
        if all([market.askers[asker].better(got[asker], had[asker]) for asker in lot]):
            return way
    return None


def cut_lists(market, asker):
    """Return the room had by an asker for each length to which it cuts its list, nought first."""
    order = market.askers[asker].order
    return tuple([had_when_told(market, asker, order[:length]) for length in range(len(order) + 1)])


def room_lie(market, room):
    """Return (order, askers had) of the first order by which a room of one seat gets a better asker, None for none."""
    had = had_by(ask_all(market), room)
    for order in all_lists(market.size()):
        got = ask_all(market.with_order(room, order))
        if market.rooms[room].better(had_by(got, room), had):
            return (order, those_in(got, room))
    return None


def had_by(match, room):
    """Return the first asker that a matching puts in a room, None for none."""
    inside = those_in(match, room)
    return inside[0] if inside != () else None


def helped(market, asker, order):
    """Return the other askers that get better, and those that get worse, when one tells another list."""
    had = ask_all(market)
    got = ask_all(market.with_list(asker, order))
    others = [(other, wish) for other, wish in enumerate(market.askers) if other != asker]
    better = tuple([other for other, wish in others if wish.better(got[other], had[other])])
    worse = tuple([other for other, wish in others if wish.better(had[other], got[other])])
    return (better, worse)


def as_true(order, other, room):
    """Tell whether two lists put the same rooms ahead of one: what can be told apart by having it."""
    return sorted(Wish(order).ahead_of(room)) == sorted(Wish(other).ahead_of(room))
