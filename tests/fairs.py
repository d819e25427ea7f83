"""Deeds to try on fairs, and the document's words on what stands after them said again by trying all matchings."""

import copy

from pairmart.days import Fair
from pairmart.markets import Market
from small import by_place, stable_ones

ASKERS = ("ann", "bob", "cat", "dan")
ROOMS = ("blue", "oak", "red")


def some_words(chance, words):
    """Some of some words in some order, mostly most of them; one that is never there among them at times."""
    ones = chance.sample(words, len(words))[:chance.choice((len(words), len(words), chance.randint(0, len(words))))]
    if chance.random() < 0.1:
        ones.insert(chance.randint(0, len(ones)), "nobody")
    return tuple(ones)


def some_deed(chance, askers=ASKERS, rooms=ROOMS):
    """A deed as (kind, who, words, count); it may not be due."""
    kind = chance.choice(("come", "come", "wish", "wish", "leave", "open", "open", "change", "shut"))
    if kind in ("come", "wish"):
        return (kind, chance.choice(askers), some_words(chance, rooms), None)
    if kind == "leave":
        return (kind, chance.choice(askers), (), None)
    if kind == "shut":
        return (kind, chance.choice(rooms), (), None)
    return (kind, chance.choice(rooms), some_words(chance, askers), chance.choice((0, 1, 1, 1, 2)))


def some_deeds(chance, count, askers=ASKERS, rooms=ROOMS):
    """So many deeds that are due, one behind the other."""
    here = {}
    found = []
    while len(found) < count:
        deed = some_deed(chance, askers, rooms)
        kind, who = deed[:2]
        if (who in here) == (kind not in ("come", "open")):
            found.append(deed)
            if kind in ("come", "open"):
                here[who] = True
            elif kind in ("leave", "shut"):
                del here[who]
    return found


def done(fair, deed):
    """Do a deed to a fair; what it answers."""
    kind, who, words, count = deed
    if kind == "come":
        return fair.come(who, words)
    if kind == "wish":
        return fair.wish(who, words)
    if kind == "leave":
        return fair.leave(who)
    if kind == "shut":
        return fair.shut_room(who)
    return (fair.open_room if kind == "open" else fair.change_room)(who, words, count)


def line_of(deed):
    """A deed as it is written."""
    kind, who, words, count = deed
    return " ".join([kind, who] + ([] if count is None else [str(count)]) + list(words))


def fair_of(deeds):
    """A fair to which deeds are done."""
    fair = Fair()
    for deed in deeds:
        done(fair, deed)
    return fair


def state(fair):
    """All that a fair keeps, as it is now."""
    return copy.deepcopy(vars(fair))


def market_of(fair):
    """The market of those who are there, by what the fair shows."""
    lists, orders = fair.shown()
    askers, rooms = [row[0] for row in lists], [row[0] for row in orders]
    return Market(
        [[rooms.index(room) for room in row[1] if room in rooms] for row in lists],
        [[askers.index(asker) for asker in row[1] if asker in askers] for row in orders],
        [row[2] for row in orders],
    )


def best_of(fair):
    """What should stand, (asker, room or None): the best for each asker of all stable matchings, by trying all."""
    lists, orders = fair.shown()
    market = market_of(fair)
    best = by_place(market, stable_ones(market), min)
    return tuple((row[0], None if room is None else orders[room][0]) for row, room in zip(lists, best))


def hanging(fair, askers, rooms):
    """Those who hang together with some askers and rooms, by the document's words."""
    lists, orders = fair.shown()
    links = [(row[0], other[0]) for row in lists for other in orders if other[0] in row[1] and row[0] in other[1]]
    mine = {row[0] for row in lists} & set(askers)
    theirs = set(rooms)
    for _ in range(len(links) + 1):
        theirs |= {room for asker, room in links if asker in mine}
        mine |= {asker for asker, room in links if room in theirs}
    return sorted(mine)
