"""Kept seats: rooms that keep seats for kinds of askers, and choose from any who ask."""

from pairmart.errors import BadRoom
from pairmart.markets import those_in
from pairmart.wishes import Wish, check_list


class Keeper:
    """A room's order, its seats, and how many of them it keeps for which kind, kind by kind."""

    def __init__(self, order, seats, keeps):
        self.listed = Wish(order)
        self.seats = seats
        self.keeps = tuple([(kind, count) for kind, count in keeps])
        counts = [count for _, count in self.keeps]
        if seats < 0 or any([count < 0 for count in counts]) or sum(counts) > seats:
            raise BadRoom("the seats can't be")

    def choose(self, ones, kinds):
        """Return whom it takes of some, by a table of kinds, in its order: kept seats first, then the rest."""
        left = self.listed.best_of(ones, len(self.listed.order))
        taken = {}
        for kind, count in self.keeps:
            best = [one for one in left if one not in taken and kinds[one] == kind]
            taken.update({one: True for one in best[:count]})
        rest = [one for one in left if one not in taken]
        taken.update({one: True for one in rest[:self.seats - len(taken)]})
        return tuple([one for one in left if one in taken])

    def refuses(self, ones, kinds):
        """Return whom it refuses of some, in order of their numbers."""
        taken = self.choose(ones, kinds)
        return tuple(sorted(set([one for one in ones if one not in taken])))


class KeptMarket:
    """Askers' lists and kinds, and rooms that keep seats."""

    def __init__(self, lists, kinds, keepers):
        self.keepers = tuple(keepers)
        self.lists = tuple([check_list(order, len(self.keepers)) for order in lists])
        self.listedes = tuple([Wish(order) for order in self.lists])
        self.kinds = tuple(kinds)
        if len(self.kinds) != len(self.lists):
            raise BadRoom("there aren't as many kinds as askers")

    def taken(self, match, room):
        """Return the askers in a room, in order."""
        return those_in(match, room)

    def ask_all(self):
        """Return the matching by asking: all who hold nothing ask their next, each room keeps whom it chooses."""
        places = [0 for _ in self.lists]
        held = [None for _ in self.lists]
        asking = self.who_asks(held, places)
        while asking != []:
            for asker in asking:
                held[asker] = self.lists[asker][places[asker]]
                places[asker] += 1
            for room, keeper in enumerate(self.keepers):
                refused = keeper.refuses(self.taken(held, room), self.kinds)
                for asker in refused:
                    held[asker] = None
            asking = self.who_asks(held, places)
        return tuple(held)

    def who_asks(self, held, places):
        """Return the askers who hold nothing and have a room left to ask, in order."""
        return [asker for asker, order in enumerate(self.lists) if held[asker] is None and places[asker] < len(order)]

    def blocks(self, match):
        """Return the (asker, room) where the asker would rather have the room, which would choose it, in order."""
        return tuple([
            (asker, room)
            for asker, wish in enumerate(self.listedes)
            for room in wish.ahead_of(match[asker])
            if asker in self.keepers[room].choose(self.taken(match, room) + (asker,), self.kinds)
        ])

    def is_stable(self, match):
        """Tell whether all have what they list, rooms choose all they have, and nothing blocks."""
        found = tuple(match)
        if len(found) != len(self.lists):
            return False
        if any([room is not None and not wish.has(room) for wish, room in zip(self.listedes, found)]):
            return False
        inside = [self.taken(found, room) for room in range(len(self.keepers))]
        if any([keeper.refuses(ones, self.kinds) != () for keeper, ones in zip(self.keepers, inside)]):
            return False
        return self.blocks(found) == ()


def is_steady(keeper, ones, kinds, gone):
    """Tell whether whom a room refuses of fewer it refuses of more, and the refused may be left out."""
    refused = keeper.refuses(ones, kinds)
    of_fewer = keeper.refuses([one for one in ones if one not in gone], kinds)
    left = [one for one in ones if one not in refused]
    return all([one in refused for one in of_fewer]) and keeper.choose(left, kinds) == keeper.choose(ones, kinds)


def kept_taken(keeper, match_inside, kinds):
    """Return (kind, how many of it are inside) for each kind that seats are kept for, in their order."""
    return tuple([(kind, len([1 for one in match_inside if kinds[one] == kind])) for kind, _ in keeper.keeps])
