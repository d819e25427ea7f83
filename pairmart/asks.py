"""Asks: matchings come about by askers asking, or rooms offering, again and again."""

from pairmart.errors import BadSize
from pairmart.markets import blocks, has_free_seat, settled, those_in


class Asking:
    """A market, how far each asker has asked down its list, who holds which room, and all asks so far."""

    def __init__(self, market):
        self.market = market
        self.next = [0] * market.size()
        self.held = [None] * market.size()
        self.steps = []

    def wants(self, asker):
        """Tell whether an asker holds nothing and has somebody left to ask."""
        return self.held[asker] is None and self.next[asker] < len(self.market.askers[asker].order)

    def ask(self, asker):
        """Let an asker ask the next room of its list; return (asker, room, who is refused by it or None)."""
        room = self.market.askers[asker].order[self.next[asker]]
        self.next[asker] += 1
        refused = self.let_in(asker, room)
        self.steps.append((asker, room, refused))
        return (asker, room, refused)

    def let_in(self, asker, room):
        """Put an asker into a room that lists it; return who is then refused, None for nobody."""
        wish = self.market.rooms[room]
        if not wish.has(asker):
            return asker
        self.held[asker] = room
        inside = those_in(self.held, room)
        if len(inside) <= self.market.seats[room]:
            return None
        refused = wish.worst(inside)
        self.held[refused] = None
        return refused

    def go_on(self):
        """Let askers ask until none wants to, the lowest first; return what is held."""
        ask_among(self, list(range(self.market.size())))
        return tuple(self.held)


def waiting(asking, askers):
    """Return those of some askers who want to ask, the lowest first."""
    return [asker for asker in sorted(askers) if asking.wants(asker)]


def ask_among(asking, askers):
    """Let some askers ask until none of them wants to, the lowest first."""
    left = waiting(asking, askers)
    while left != []:
        asking.ask(left[0])
        left = waiting(asking, askers)


def ask_all(market):
    """Return the matching by asking: the best stable one for each asker."""
    return Asking(market).go_on()


def ask_in_turn(market, draws):
    """Return the same by another order: each time the waiting asker by a draw's rest, the lowest behind them."""
    asking = Asking(market)
    for draw in draws:
        left = waiting(asking, list(range(market.size())))
        if left != []:
            asking.ask(left[draw % len(left)])
    return asking.go_on()


def trace(market):
    """Return all asks, (asker, room, who is refused), the lowest waiting asker first."""
    asking = Asking(market)
    asking.go_on()
    return tuple(asking.steps)


def refusals(market):
    """Return (asker, room) that were refused, in the order of the refusals."""
    return tuple([(refused, room) for _, room, refused in trace(market) if refused is not None])


def offer_all(market):
    """Return the matching by rooms' offers, each to its best who hasn't refused it: the worst stable one for askers."""
    held = [None] * market.size()
    gone = {}
    moved = True
    while moved:
        moved = False
        for room in range(len(market.rooms)):
            asker = next_to_offer(market, held, gone, room)
            if asker is not None:
                offer(market, held, gone, room, asker)
                moved = True
    return tuple(held)


def next_to_offer(market, held, gone, room):
    """Return a room's best asker who isn't in it and hasn't refused or left it; None for none, or no free seat."""
    if not has_free_seat(market, held, room):
        return None
    for asker in market.rooms[room].order:
        if held[asker] != room and (asker, room) not in gone:
            return asker
    return None


def offer(market, held, gone, room, asker):
    """Let a room offer a seat to an asker, who takes it, and leaves what it had, where that is better."""
    had = held[asker]
    if not market.askers[asker].better(room, had):
        gone[(asker, room)] = True
        return
    if had is not None:
        gone[(asker, had)] = True
    held[asker] = room


def come_later(market, first, order):
    """Return the matching when only some askers ask first and others come one by one, in an order."""
    asking = Asking(market)
    here = list(first)
    ask_among(asking, here)
    for asker in order:
        here.append(asker)
        ask_among(asking, here)
    return tuple(asking.held)


def many_asks(market):
    """Return how many asks there are by asking, whatever the order."""
    return len(trace(market))


def by_blocks(market, match, draws, most=200):
    """Return a matching reached by putting blocking pairs together, each by a draw's rest; BadSize for too many."""
    found = tuple(match)
    pairs = blocks(market, found)
    done = 0
    while pairs != ():
        if done >= most:
            raise BadSize("too many pairs are put together")
        draw = draws[done % len(draws)]
        found = settled(market, found, pairs[draw % len(pairs)])
        pairs = blocks(market, found)
        done += 1
    return found
