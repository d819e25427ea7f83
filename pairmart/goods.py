"""Goods: things given whole to several, each with worths of its own, so that no envy is left but by one thing."""

from pairmart.circles import circle_from
from pairmart.errors import BadSize
from pairmart.worths import check_worths, width_of


def check_rows(rows):
    """Return worths, a row for each, all of one length, none below nought; BadSize."""
    return check_worths(rows)


def worth(row, things):
    """Return what things are worth by a row."""
    return sum([row[thing] for thing in things])


def envies(rows, lots, one, other):
    """Tell whether one would rather have another's lot."""
    return worth(rows[one], lots[other]) > worth(rows[one], lots[one])


def is_calm(rows, lots):
    """Tell whether nobody would rather have another's lot."""
    return not any([envies(rows, lots, one, other) for one in range(len(rows)) for other in range(len(rows))])


def but_one(rows, lots):
    """Tell whether nobody would rather have another's lot without some one thing of it."""
    return not any([
        envies(rows, lots, one, other) and envies_all_but_one(rows[one], lots[one], lots[other])
        for one in range(len(rows))
        for other in range(len(rows))
    ])


def envies_all_but_one(row, mine, theirs):
    """Tell whether a lot is worth more than one's own by its row whichever one thing is taken away from it."""
    return worth(row, theirs) - max([row[thing] for thing in theirs]) > worth(row, mine)


def enviers(rows, lots):
    """Return, for each, the first one who would rather have its lot, None for nobody."""
    found = []
    for other in range(len(rows)):
        ones = [one for one in range(len(rows)) if envies(rows, lots, one, other)]
        found.append(ones[0] if ones != [] else None)
    return found


def ring_of(backs):
    """Return a ring in which each would rather have the next one's lot, where each has somebody behind it."""
    # Who stands behind is who envies, so the circle is told the other way round.
    circle = circle_from(backs, 0)
    return circle[:1] + circle[:0:-1]


def passed(lots, ring):
    """Return lots in which each of a ring has the next one's."""
    found = list(lots)
    for place, one in enumerate(ring):
        found[one] = lots[ring[(place + 1) % len(ring)]]
    return found


def share(rows):
    """Return lots, each in order: things given one by one to the first nobody envies, lots passed round till one is."""
    found = check_rows(rows)
    lots = [() for _ in found]
    for thing in range(width_of(found)):
        backs = enviers(found, lots)
        while None not in backs:
            lots = passed(lots, ring_of(backs))
            backs = enviers(found, lots)
        lots[backs.index(None)] = lots[backs.index(None)] + (thing,)
    return tuple(lots)


def in_rounds(rows, order):
    """Return lots, each in order, by turns again and again: each its best thing left, the first of as good."""
    found = check_rows(rows)
    lots = [[] for _ in found]
    left = list(range(width_of(found)))
    turn = 0
    while left != [] and len(order) > 0:
        one = order[turn % len(order)]
        thing = max(left, key=lambda other: found[one][other])
        lots[one].append(thing)
        left.remove(thing)
        turn += 1
    return tuple([tuple(sorted(lot)) for lot in lots])


def all_given(rows, lots):
    """Tell whether each thing is in just one lot."""
    return sorted([thing for lot in lots for thing in lot]) == list(range(width_of(rows)))


def least_worth(rows, lots):
    """Return the least that anybody has, by its own worths, nought for nobody."""
    return min([worth(row, lot) for row, lot in zip(rows, lots)], default=0)


def put_on(sums, place, much):
    """Return sums with so much more at a place."""
    return tuple([already + much if at == place else already for at, already in enumerate(sums)])


def fair_part(rows, one):
    """Return the most that one could be sure of, were it to make the lots and be given the last; up to six things."""
    row = rows[one]
    if len(row) > 6:
        raise BadSize("there are too many things")
    # Lots made in another order are as good, so sums are kept sorted and each of them once.
    ways = [tuple([0] * len(rows))]
    for much in row:
        ways = sorted(set([tuple(sorted(put_on(sums, place, much))) for sums in ways for place in range(len(sums))]))
    return max([sums[0] for sums in ways])
