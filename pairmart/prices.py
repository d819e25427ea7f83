"""Prices: things sold one to a buyer, prices at which all are content, the least ones, and how they rise."""

from pairmart.covers import Links
from pairmart.errors import BadPaper, BadSize
from pairmart.worths import best_pairs, check_worths, greatest, width_of, without_row, worth_of


def most_gain(worths, prices):
    """Return the most that a buyer may gain at prices, nought by having none."""
    return max([0] + [worth - price for worth, price in zip(worths, prices)])


def gaining(worths, prices, much):
    """Return the things by which a buyer gains so much at prices, in order."""
    return tuple([thing for thing, (worth, price) in enumerate(zip(worths, prices)) if worth - price == much])


def wanted_at(worths, prices):
    """Return the things a buyer wants most at prices, () where it would rather have none than any."""
    much = most_gain(worths, prices)
    return gaining(worths, prices, much) if much > 0 else ()


def may_have(worths, prices):
    """Return what a buyer may be given at prices: None among it where it is as content with nothing."""
    much = most_gain(worths, prices)
    return gaining(worths, prices, much) + (() if much > 0 else (None,))


def are_content(rows, prices, pairs):
    """Tell whether at prices all have what they may be given, no thing twice, and unsold things cost nothing."""
    if len(pairs) != len(rows) or any([len(row) != len(prices) for row in rows]):
        return False
    sold = [thing for thing in pairs if thing is not None]
    if len(set(sold)) != len(sold) or any([price != 0 and thing not in sold for thing, price in enumerate(prices)]):
        return False
    return all([thing in may_have(row, prices) for row, thing in zip(rows, pairs)])


def can_be_content(rows, prices):
    """Return the pairs of greatest worth where all are content with them at prices, None where not."""
    pairs = best_pairs(rows)[0]
    return pairs if are_content(rows, prices, pairs) else None


def least_prices(rows):
    """Return the least prices at which all are content: what the others lose by each buyer's being there."""
    found = check_worths(rows)
    pairs = best_pairs(found)[0]
    prices = [0] * width_of(found)
    for row, thing in enumerate(pairs):
        if thing is not None:
            others_have = worth_of(found, pairs) - found[row][thing]
            prices[thing] = greatest(without_row(found, row)) - others_have
    return tuple(prices)


def over_wanted(rows, prices):
    """Return (buyers, things) that ways lead to from buyers who must go without what they want, None for none."""
    links = Links([wanted_at(row, prices) for row in rows], len(prices))
    # Who wants nothing goes without it at no loss.
    lot = tuple([buyer for buyer in links.reached(links.most_pairs())[0] if links.rows[buyer] != ()])
    return (lot, things_of(links, lot)) if lot != () else None


def things_of(links, lot):
    """Return the things linked to a lot, in order."""
    return tuple(sorted(set([thing for buyer in lot for thing in links.rows[buyer]])))


def rise(rows, most=500):
    """Return the prices, step by step from nothing on, as over-wanted things rise by one; BadSize for too many."""
    found = check_worths(rows)
    steps = [tuple([0] * width_of(found))]
    wanted = over_wanted(found, steps[-1])
    while wanted is not None and len(steps) <= most:
        steps.append(tuple([price + 1 if thing in wanted[1] else price for thing, price in enumerate(steps[-1])]))
        wanted = over_wanted(found, steps[-1])
    if len(steps) > most:
        raise BadSize("there are too many steps")
    return tuple(steps)


def lower_of(one, other):
    """Return the lower of two prices of each thing."""
    return tuple([min(price, also) for price, also in zip(one, other)])


def higher_of(one, other):
    """Return the higher of two prices of each thing."""
    return tuple([max(price, also) for price, also in zip(one, other)])


def gain_by(rows, row, told):
    """Return what a buyer gains by telling other worths at the least prices, by its true ones."""
    heard = list(rows)
    heard[row] = told
    thing = best_pairs(heard)[0][row]
    return rows[row][thing] - least_prices(heard)[thing] if thing is not None else 0


def check_least(rows, prices, pairs):
    """Return True where prices are the least at which all are content with pairs; BadPaper."""
    if not are_content(rows, prices, pairs) or tuple(prices) != least_prices(rows):
        raise BadPaper("these aren't the least prices")
    return True
