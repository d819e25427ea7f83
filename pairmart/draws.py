"""Draws: chances in whole parts drawn as sure lots, each with its weight."""

from math import gcd

from pairmart.covers import Links
from pairmart.errors import BadSize


def check_square(rows):
    """Return rows of whole numbers with one sum along and down; BadSize for others."""
    found = [tuple(row) for row in rows]
    many = len(found)
    if any([len(row) != many or any([part < 0 for part in row]) for row in found]):
        raise BadSize("this is no square of whole numbers")
    sums = [sum(row) for row in found] + [sum([row[column] for row in found]) for column in range(many)]
    if any([one != sums[0] for one in sums]):
        raise BadSize("the sums along and down are unlike")
    return found


def parted(rows):
    """Return ((weight, column of each row)), whole lots whose weights add up to rows, each at a least part's weight."""
    left = check_square(rows)
    lots = []
    while any([part > 0 for row in left for part in row]):
        lot = Links([[column for column, part in enumerate(row) if part > 0] for row in left], len(left)).most_pairs()
        weight = min([row[column] for row, column in zip(left, lot)])
        left = [less_at(row, column, weight) for row, column in zip(left, lot)]
        lots.append((weight, lot))
    return tuple(lots)


def less_at(row, place, much):
    """Return a row with so much less at a place."""
    return tuple([part - much if at == place else part for at, part in enumerate(row)])


def added(lots, many):
    """Return the rows that lots and their weights add up to."""
    found = [[0] * many for _ in range(many)]
    for weight, lot in lots:
        for row, column in enumerate(lot):
            found[row][column] = found[row][column] + weight
    return tuple([tuple(row) for row in found])


def drawn(lots, number):
    """Return the lot that a number from nought on draws, each lot as many numbers as its weight; BadSize past all."""
    past = 0
    for weight, lot in lots:
        past = past + weight
        if number < past:
            return tuple(lot)
    raise BadSize("the number is past all lots")


def to_square(rows, things):
    """Return (low, square): chances as parts of one low, what lacks put in past them, so that all sums are the low."""
    low = 1
    for lows in [parts for row in rows for _, parts in row]:
        low = low * lows // common(low, lows)
    chances = [[top * (low // parts) for top, parts in row] for row in rows]
    many = len(chances)
    square = []
    for one, row in enumerate(chances):
        square.append(tuple(row) + alone_at(one, low - sum(row), many))
    for thing in range(things):
        column = [row[thing] for row in chances]
        square.append(alone_at(thing, low - sum(column), things) + tuple(column))
    return (low, tuple(square))


def alone_at(place, much, many):
    """Return a row of so many noughts, with so much at a place."""
    return tuple([much if at == place else 0 for at in range(many)])


def given_by(pairs, many, things):
    """Return what so many get by a lot of a square, None for what lies past the things."""
    return tuple([thing if thing < things else None for thing in pairs[:many]])


def common(one, other):
    """Return the greatest number that goes into both."""
    return gcd(one, other)
