"""Fills: what is the same in all stable matchings, and how the seats of rooms go."""

from pairmart.asks import ask_all, offer_all
from pairmart.markets import filled, has_free_seat, ranks_of, those_in


def seated(market):
    """Return the askers who have a room in every stable matching: the same ones in all, in order."""
    return tuple([asker for asker, room in enumerate(ask_all(market)) if room is not None])


def left_over(market):
    """Return the askers who have none in any stable matching, in order."""
    return those_in(ask_all(market), None)


def seats_taken(market):
    """Return how many seats of each room are taken, the same in every stable matching."""
    return filled(market, ask_all(market))


def short_rooms(market):
    """Return the rooms with a free seat in every stable matching, with their askers: the same ones in all."""
    match = ask_all(market)
    short = [room for room in range(len(market.rooms)) if has_free_seat(market, match, room)]
    return tuple([(room, those_in(match, room)) for room in short])


def moves(market):
    """Return the (asker, best room, worst room) of askers whose rooms are not the same in all, in order."""
    worst = offer_all(market)
    return tuple([
        (asker, room, worst[asker]) for asker, room in enumerate(ask_all(market)) if room != worst[asker]
    ])


def is_only(market):
    """Tell whether there is but one stable matching."""
    return ask_all(market) == offer_all(market)


def waste(market, match):
    """Return the (asker, room) of free seats that an asker would rather have and the room lists it, in order."""
    return tuple([
        (asker, room)
        for asker, wish in enumerate(market.askers)
        for room in wish.ahead_of(match[asker])
        if market.rooms[room].has(asker) and has_free_seat(market, match, room)
    ])


def envies(market, match, asker, other):
    """Tell whether an asker would rather have another's room, which puts it ahead."""
    room = match[other]
    if room is None or not market.askers[asker].better(room, match[asker]):
        return False
    return market.rooms[room].better(asker, other)


def envy(market, match):
    """Return the (asker, other, room) where an asker would rather have another's room, which puts it ahead."""
    return tuple([
        (asker, other, room)
        for asker in range(market.size())
        for other, room in enumerate(match)
        if envies(market, match, asker, other)
    ])


def more_seats(market, room, many):
    """Return the askers' ranks by asking with so many seats more in a room: for nothing how many are listed."""
    wider = market.with_seats(room, market.seats[room] + many)
    return ranks_of(wider, ask_all(wider))
