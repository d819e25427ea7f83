"""Terms: askers and rooms who agree on terms, with a contract for each."""

from pairmart.errors import BadWish
from pairmart.wishes import Wish


class Deals:
    """Contracts (asker, room, term), each asker's list of them, each room's order of them and its seats."""

    def __init__(self, contracts, lists, orders, seats):
        self.contracts = tuple([(asker, room, term) for asker, room, term in contracts])
        self.lists = tuple([Wish(order) for order in lists])
        self.orders = tuple([Wish(order) for order in orders])
        self.seats = tuple(seats)
        for place, wishes in enumerate((self.lists, self.orders)):
            for who, wish in enumerate(wishes):
                self.check(wish, place, who)

    def check(self, wish, place, who):
        """Refuse with BadWish a list of contracts that aren't there, are another's or are told twice."""
        if len(wish.ranks) != len(wish.order):
            raise BadWish("a contract is told twice")
        if any([not 0 <= one < len(self.contracts) or self.contracts[one][place] != who for one in wish.order]):
            raise BadWish("a contract isn't there, or is another's")

    def choose(self, room, ones):
        """Return the contracts a room takes of some: its best, one for each asker, up to its seats."""
        best = {}
        for one in self.orders[room].best_of(ones, len(self.contracts)):
            best.setdefault(self.contracts[one][0], one)
        return tuple(list(best.values())[:self.seats[room]])

    def offers(self):
        """Return the contracts held when askers offer them one by one down their lists, all offers kept in mind."""
        made = []
        next_ones = [0 for _ in self.lists]
        asker = self.free_asker(made, next_ones)
        while asker is not None:
            made.append(self.lists[asker].order[next_ones[asker]])
            next_ones[asker] += 1
            asker = self.free_asker(made, next_ones)
        return self.kept_by(made)

    def kept_by(self, made):
        """Return the contracts that rooms take of all that were offered to them, in order."""
        return tuple(sorted([one for room in range(len(self.orders)) for one in self.choose(room, made)]))

    def free_asker(self, made, next_ones):
        """Return the lowest asker who holds nothing and has an offer left, None for none."""
        held = self.kept_by(made)
        for asker, wish in enumerate(self.lists):
            if next_ones[asker] < len(wish.order) and self.of_asker(held, asker) is None:
                return asker
        return None

    def of_asker(self, taken, asker):
        """Return an asker's contract among some, None for none."""
        for one in taken:
            if self.contracts[one][0] == asker:
                return one
        return None

    def of_room(self, taken, room):
        """Return a room's contracts among some, in order."""
        return tuple([one for one in taken if self.contracts[one][1] == room])

    def blocks(self, taken):
        """Return the contracts that their asker would rather have and their room would take beside what it has."""
        return tuple([
            one
            for one, (asker, room, _) in enumerate(self.contracts)
            if self.lists[asker].better(one, self.of_asker(taken, asker))
            and one in self.choose(room, self.of_room(taken, room) + (one,))
        ])

    def is_stable(self, taken):
        """Tell whether each asker has one listed contract at most, rooms take all they have, and nothing blocks."""
        found = tuple(taken)
        if any([not 0 <= one < len(self.contracts) for one in found]):
            return False
        owners = [self.contracts[one][0] for one in found]
        if len(set(owners)) != len(owners):
            return False
        if any([not self.lists[asker].has(one) for asker, one in zip(owners, found)]):
            return False
        return self.kept_by(found) == tuple(sorted(found)) and self.blocks(found) == ()


def plain_deals(market):
    """Return a market as contracts of one term, in order of its pairs, with their lists."""
    pairs = market.pairs()
    numbers = {pair: number for number, pair in enumerate(pairs)}
    lists = [[number for number, pair in enumerate(pairs) if pair[0] == asker] for asker in range(market.size())]
    orders = [
        [numbers[(asker, room)] for asker in wish.order if market.likes(asker, room)]
        for room, wish in enumerate(market.rooms)
    ]
    return Deals([(asker, room, 0) for asker, room in pairs], lists, orders, market.seats)


def as_match(deals, taken):
    """Return the matching that contracts make."""
    rooms = {deals.contracts[one][0]: deals.contracts[one][1] for one in taken}
    return tuple([rooms.get(asker) for asker in range(len(deals.lists))])
