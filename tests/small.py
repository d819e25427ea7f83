"""Small markets to try things on, and the document's words said again by trying all matchings."""

import random
from itertools import combinations, permutations, product

from pairmart.markets import Market


def some_list(chance, many):
    """A strict list of some below so many, mostly long ones."""
    ones = chance.sample(range(many), many)
    return tuple(ones[:chance.choice((many, many, chance.randint(0, many)))])


def some_markets(count, seed, askers=4, rooms=4, seats=(0, 1, 1, 1, 2, 3)):
    """Markets of up to so many askers and rooms, the same ones for the same seed."""
    chance = random.Random(seed)
    found = []
    for _ in range(count):
        many, places = chance.randint(0, askers), chance.randint(0, rooms)
        lists = [some_list(chance, places) for _ in range(many)]
        orders = [some_list(chance, many) for _ in range(places)]
        found.append(Market(lists, orders, [chance.choice(seats) for _ in range(places)]))
    return found


def full_markets(count, seed, many=4):
    """Markets of as many askers as rooms of one seat, who all list all: they often have several stable matchings."""
    chance = random.Random(seed)
    found = []
    for _ in range(count):
        lists = [chance.sample(range(many), many) for _ in range(many)]
        orders = [chance.sample(range(many), many) for _ in range(many)]
        found.append(Market(lists, orders, [1] * many))
    return found


def some_tied(count, seed, askers=4, rooms=4):
    """(lists, orders in groups) of small markets with ties, the same ones for the same seed."""
    chance = random.Random(seed)
    found = []
    for _ in range(count):
        many, places = chance.randint(0, askers), chance.randint(0, rooms)
        lists = tuple(some_list(chance, places) for _ in range(many))
        orders = tuple(in_groups(chance, some_list(chance, many)) for _ in range(places))
        found.append((lists, orders))
    return found


def in_groups(chance, order):
    """A list cut into groups at places that chance takes."""
    groups = []
    for one in order:
        if groups and chance.random() < 0.4:
            groups[-1].append(one)
        else:
            groups.append([one])
    return tuple(tuple(sorted(group)) for group in groups)


def all_matches(askers, seats):
    """All matchings of so many askers in which no room has more than its seats."""
    rooms = (None, *range(len(seats)))
    return [match for match in product(rooms, repeat=askers)
            if all(match.count(room) <= count for room, count in enumerate(seats))]


def place(order, one):
    """The place of one on a list: nothing behind all, what isn't listed behind nothing."""
    if one is None:
        return len(order)
    return order.index(one) if one in order else len(order) + 1


def blocking(market, match):
    """The blocking pairs of a matching, by the document's words."""
    lists, orders, seats = market.shown()
    found = []
    for asker, order in enumerate(lists):
        for room in order:
            inside = [one for one, had in enumerate(match) if had == room]
            listed = asker in orders[room]
            worse = [one for one in inside if place(orders[room], one) > place(orders[room], asker)]
            rather = place(order, room) < place(order, match[asker])
            if rather and listed and (len(inside) < seats[room] or worse):
                found.append((asker, room))
    return tuple(found)


def stable_ones(market):
    """All stable matchings, by trying all."""
    lists, orders, seats = market.shown()
    found = []
    for match in all_matches(len(lists), seats):
        liked = all(room is None or (room in lists[asker] and asker in orders[room])
                    for asker, room in enumerate(match))
        if liked and blocking(market, match) == ():
            found.append(match)
    return found


def by_place(market, matches, pick):
    """Each asker's best (pick=min) or worst (pick=max) room in some matchings, put together."""
    lists = market.shown()[0]
    return tuple(pick([match[asker] for match in matches], key=lambda room, order=order: place(order, room))
                 for asker, order in enumerate(lists))


def lists_below(many):
    """All strict lists of some below so many, as the document tells them."""
    return tuple(order for length in range(many + 1) for order in permutations(range(many), length))


def strong_ones(lists, orders):
    """All strongly stable matchings of a market with ties, by trying all."""
    return [match for match in all_matches(len(lists), [1] * len(orders)) if tied_blocks(lists, orders, match) == []]


def weak_ones(lists, orders):
    """All weakly stable matchings of a market with ties, by trying all."""
    return [match for match in all_matches(len(lists), [1] * len(orders))
            if tied_blocks(lists, orders, match, even=False) == []]


def group_place(groups, one):
    """The number of one's group, nothing behind all, what isn't listed behind nothing."""
    if one is None:
        return len(groups)
    return next((number for number, group in enumerate(groups) if one in group), len(groups) + 1)


def tied_blocks(lists, orders, match, even=True):
    """What is wrong with a matching: pairs that don't list each other, and pairs that block."""
    found = [(asker, room) for asker, room in enumerate(match)
             if room is not None and (room not in lists[asker] or group_place(orders[room], asker) > len(orders[room]))]
    for asker, order in enumerate(lists):
        for room in order[:place(order, match[asker])]:
            mine = group_place(orders[room], asker)
            inside = match.index(room) if room in match else None
            theirs = group_place(orders[room], inside)
            if mine < len(orders[room]) and (mine < theirs or (even and mine == theirs)):
                found.append((asker, room))
    return found


def some_rows(chance, many, wide, most):
    """So many rows of so many numbers from nought to most."""
    return tuple(tuple(chance.randint(0, most) for _ in range(wide)) for _ in range(many))


def all_pairs(many, wide):
    """All ways in which so many rows have each a column below wide or None, no column twice."""
    return [pairs for pairs in product((None, *range(wide)), repeat=many)
            if len(set(pairs) - {None}) == len([one for one in pairs if one is not None])]


def all_lots(many):
    """All lots of ones below so many, the bare one too."""
    return [lot for length in range(many + 1) for lot in combinations(range(many), length)]
