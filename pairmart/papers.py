"""Papers: why a matching is stable, why it is the askers' best, and a small checker of both."""

from pairmart.asks import ask_all, refusals, trace
from pairmart.errors import BadPaper
from pairmart.markets import check_match, those_in, unwanted


def apart(market, match):
    """Return the (asker, room) that like each other and aren't together, in the order of pairs."""
    return tuple([(asker, room) for asker, room in market.pairs() if match[asker] != room])


def has_better(market, match, asker, room):
    """Tell whether an asker has better than a room."""
    return market.askers[asker].better(match[asker], room)


def full_of_better(market, match, room, asker):
    """Tell whether all seats of a room are taken by better ones than an asker."""
    inside = those_in(match, room)
    wish = market.rooms[room]
    return len(inside) >= market.seats[room] and all([wish.better(one, asker) for one in inside])


def stable_paper(market, match):
    """Return ((asker, room, "has" or "full") for each pair that could block): why none does; BadPaper if one does."""
    if unwanted(market, match) != ():
        raise BadPaper("two are together that don't list each other")
    return tuple([(asker, room, why_not(market, match, asker, room)) for asker, room in apart(market, match)])


def why_not(market, match, asker, room):
    """Return "has" where an asker has better than a room, "full" where it is full of better; BadPaper for neither."""
    if has_better(market, match, asker, room):
        return "has"
    if full_of_better(market, match, room, asker):
        return "full"
    raise BadPaper("the pair blocks")


def is_so(market, match, row):
    """Tell whether what a row of a stable paper says is so."""
    asker, room, word = row
    if word == "has":
        return has_better(market, match, asker, room)
    return word == "full" and full_of_better(market, match, room, asker)


def check_stable(market, match, paper):
    """Return True for a paper that shows a matching stable; BadPaper for another, BadMatch for no matching."""
    found = check_match(market, match)
    if unwanted(market, found) != ():
        raise BadPaper("two are together that don't list each other")
    # A row of a pair that isn't due is refused here, so that the rows looked at below name who is there.
    if sorted(apart(market, found)) != sorted([(asker, room) for asker, room, _ in paper]):
        raise BadPaper("it is of other pairs")
    if not all([is_so(market, found, row) for row in paper]):
        raise BadPaper("what it says is not so")
    return True


def best_paper(market):
    """Return ((asker, room, holders) in order): each refusal, with who held the room's seats by then."""
    held = [None] * market.size()
    rows = []
    for asker, room, refused in trace(market):
        held[asker] = room
        if refused is not None:
            held[refused] = None
            rows.append((refused, room, those_in(held, room)))
    return tuple(rows)


def check_best(market, match, paper):
    """Return True for refusals that show that no stable matching gives an asker better than a matching; BadPaper."""
    gone = {}
    for asker, room, holders in paper:
        check_refusal(market, gone, asker, room, holders)
        gone[(asker, room)] = True
    if len(match) != market.size():
        raise BadPaper("it is of no matching")
    for asker, wish in enumerate(market.askers):
        if any([(asker, room) not in gone for room in wish.ahead_of(match[asker])]):
            raise BadPaper("a room that an asker wants more hasn't refused it")
    return True


def check_refusal(market, gone, asker, room, holders):
    """Refuse with BadPaper a refusal that isn't by right, when some others are gone ahead of it."""
    if any([not 0 <= one < market.size() for one in (asker, *holders)]) or not 0 <= room < len(market.rooms):
        raise BadPaper("a number isn't there")
    if not market.rooms[room].has(asker):
        return
    if len(holders) != market.seats[room] or len(dict([(one, 1) for one in holders])) != len(holders):
        raise BadPaper("the room isn't full")
    if any([not holds_by_right(market, gone, holder, room, asker) for holder in holders]):
        raise BadPaper("a holder isn't in the room by right")


def holds_by_right(market, gone, holder, room, asker):
    """Tell whether a holder is better for a room than an asker, and was refused by all rooms it wants more."""
    if not market.likes(holder, room) or not market.rooms[room].better(holder, asker):
        return False
    return all([(holder, other) in gone for other in market.askers[holder].ahead_of(room)])


def both_papers(market, match):
    """Return (stable paper, best paper) of a matching; BadPaper where it isn't the askers' best stable one."""
    best = best_paper(market)
    papers = (stable_paper(market, match), best)
    check_best(market, match, best)
    return papers


def check_both(market, match, papers):
    """Return True for papers that show a matching stable and the askers' best; BadPaper."""
    stable, best = papers
    return check_stable(market, match, stable) and check_best(market, match, best)


def refused_by(market, asker):
    """Return the rooms that refuse an asker by asking, in order."""
    return tuple([room for one, room in refusals(market) if one == asker])


def reach(market, asker):
    """Return the best room an asker can have in any stable matching, None for none."""
    return ask_all(market)[asker]
