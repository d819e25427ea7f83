"""Ties: orders with ties, three ways to be stable, and the strongest one found or refused."""

from pairmart.asks import ask_all
from pairmart.errors import BadPaper
from pairmart.markets import Market, those_in
from pairmart.wishes import Wish, broken, check_groups, check_list, group_ranks


class Tied:
    """Askers with strict lists, rooms of one seat with orders in groups."""

    def __init__(self, lists, orders):
        self.lists = tuple([check_list(order, len(orders)) for order in lists])
        self.orders = tuple([check_groups(groups, len(lists)) for groups in orders])
        self.ranks = tuple([group_ranks(groups) for groups in self.orders])

    def likes(self, asker, room):
        """Tell whether both list each other."""
        return room in self.lists[asker] and asker in self.ranks[room]

    def wants(self, asker, room, match):
        """Tell whether an asker would rather have a room than what it has."""
        return Wish(self.lists[asker]).better(room, match[asker])

    def room_has(self, room, match):
        """Return who is in a room, None for nobody."""
        inside = those_in(match, room)
        return inside[0] if inside != () else None

    def prefers(self, room, asker, match, even):
        """Tell whether a room would rather have an asker than who is in it; with even, or just as well."""
        ranks = self.ranks[room]
        if asker not in ranks:
            return False
        inside = self.room_has(room, match)
        if inside not in ranks or ranks[asker] < ranks[inside]:
            return True
        return even and ranks[asker] == ranks[inside]

    def blocks(self, match, even):
        """Return the (asker, room) that block: the asker better off, the room better off, or with even just as well."""
        return tuple([
            (asker, room)
            for asker, order in enumerate(self.lists)
            for room in order
            if self.wants(asker, room, match) and self.prefers(room, asker, match, even)
        ])

    def wanted(self, match):
        """Tell whether all that are together list each other, one to a room."""
        pairs = [(asker, room) for asker, room in enumerate(match) if room is not None]
        rooms = dict([(room, 1) for asker, room in pairs])
        return len(rooms) == len(pairs) and all([self.likes(asker, room) for asker, room in pairs])

    def is_weak(self, match):
        """Tell whether no two would both be better off together."""
        return self.wanted(match) and self.blocks(match, False) == ()

    def is_strong(self, match):
        """Tell whether no asker would be better off in a room that would be better off, or just as well."""
        return self.wanted(match) and self.blocks(match, True) == ()

    def strict(self, draw):
        """Return the market in which ties are broken by a draw of askers."""
        orders = [broken(groups, draw) for groups in self.orders]
        return Market(self.lists, orders, [1] * len(orders))


def some_weak(tied, draw):
    """Return a matching that is weakly stable: the askers' best where a draw breaks the ties."""
    return ask_all(tied.strict(draw))


class Strong:
    """A market with ties, its lists as they shrink, and who holds which rooms."""

    def __init__(self, tied):
        self.tied = tied
        self.left = [
            [room for room in order if tied.likes(asker, room)] for asker, order in enumerate(tied.lists)
        ]
        self.inside = [[] for _ in tied.orders]
        self.asked = [False for _ in tied.orders]
        self.gone = []

    def drop(self, asker, room):
        """Take a room off an asker's list, and the asker out of it."""
        if room in self.left[asker]:
            self.left[asker].remove(room)
            self.gone.append((asker, room))
        if asker in self.inside[room]:
            self.inside[room].remove(asker)

    def holds(self, asker):
        """Tell whether an asker holds a room."""
        return any([asker in ones for ones in self.inside])

    def ask(self, asker):
        """Let an asker ask its best room: it drops all worse; where two stand alike in it, all of their group."""
        room = self.left[asker][0]
        groups = self.tied.orders[room]
        place = self.tied.ranks[room][asker]
        self.asked[room] = True
        self.inside[room].append(asker)
        for worse in [one for group in groups[place + 1:] for one in group]:
            self.drop(worse, room)
        if len(self.inside[room]) > 1:
            for alike in groups[place]:
                self.drop(alike, room)

    def go_on(self):
        """Let askers without a room ask, the lowest first, until none is left who can."""
        asking = self.still_asking()
        while asking != []:
            self.ask(asking[0])
            asking = self.still_asking()

    def still_asking(self):
        """Return the askers who hold nothing and have somebody left to ask."""
        return [asker for asker, rooms in enumerate(self.left) if rooms != [] and not self.holds(asker)]

    def match(self):
        """Return who has which room."""
        found = [None for _ in self.left]
        for room, ones in enumerate(self.inside):
            for asker in ones:
                found[asker] = room
        return tuple(found)


def asked_out(tied):
    """Return a market's Strong when none is left who can ask."""
    strong = Strong(tied)
    strong.go_on()
    return strong


def stays_bare(strong, room):
    """Tell whether a room is bare though it was asked."""
    return strong.asked[room] and strong.inside[room] == []


def strongest(tied):
    """Return (matching, None) for the askers' best strongly stable one, (None, a room that stays bare though asked)."""
    strong = asked_out(tied)
    for room in range(len(strong.asked)):
        if stays_bare(strong, room):
            return (None, room)
    return (strong.match(), None)


def gone_pairs(tied):
    """Return the (asker, room) that fall off on the way, in order: none is together in a strongly stable matching."""
    return tuple(asked_out(tied).gone)


def check_none(tied, room):
    """Return True where a room shows that no strongly stable matching is there; BadPaper."""
    strong = asked_out(tied)
    if not 0 <= room < len(strong.asked) or not stays_bare(strong, room):
        raise BadPaper("the room doesn't show it")
    return True
