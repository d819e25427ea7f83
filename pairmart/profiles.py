"""Profiles: how many get their first thing, their second and so on, and the givings that are best by that."""

from pairmart.wishes import check_list
from pairmart.worths import best_pairs


def longest(lists):
    """Return how many the longest list has, nought for no lists."""
    return max([len(order) for order in lists], default=0)


def places_got(lists, given):
    """Return the places, from nought, of what is got, where it is listed."""
    return [order.index(thing) for order, thing in zip(lists, given) if thing in order]


def profile(lists, given):
    """Return how many get their first, second and so on, as many counts as the longest list has."""
    places = places_got(lists, given)
    return tuple([places.count(place) for place in range(longest(lists))])


def weights(count, base, up):
    """Return so many powers of a base, from one on, the greatest first where told."""
    found = []
    power = 1
    for _ in range(count):
        found.append(power)
        power = power * base
    return found[::-1] if up else found


def by_weights(lists, many, weight):
    """Return the giving of the greatest worth where a thing at a place of a list has the place's weight."""
    rows = [[weight[order.index(thing)] if thing in order else 0 for thing in range(many)] for order in lists]
    # Who would be given a thing that it doesn't list has nothing: it is worth as much.
    return tuple([thing if thing in order else None for order, thing in zip(lists, best_pairs(rows)[0])])


def checked(lists, many):
    """Return lists as tuples; BadWish as for each."""
    return [check_list(order, many) for order in lists]


def most_firsts(lists, many):
    """Return a giving with as many firsts as can be, of those as many seconds, and so on."""
    found = checked(lists, many)
    # By a base above how many there are, one more at a place is worth more than all that stands behind it.
    return by_weights(found, many, weights(longest(found), len(found) + 1, True))


def fewest_lasts(lists, many):
    """Return a giving to as many as can be, of those with as few lasts as can be, then the next ones up, and so on."""
    found = checked(lists, many)
    count = longest(found)
    powers = weights(count + 1, len(found) + 1, False)
    return by_weights(found, many, [powers[count] - power for power in powers[:count]])


def least_sum(lists, many):
    """Return a giving to as many as can be with the least sum of places."""
    found = checked(lists, many)
    count = longest(found)
    # To give to one more is worth more than all places that it may cost.
    much = count * len(found) + 1
    return by_weights(found, many, [much - place for place in range(count)])


def reversed_profile(lists, given):
    """Return how many get something, then the counts of lasts, the last place first, each below nought."""
    return (how_many(given),) + tuple([-count for count in profile(lists, given)[::-1]])


def sum_of_places(lists, given):
    """Return the sum of the places, from nought, of what is got."""
    return sum(places_got(lists, given))


def how_many(given):
    """Return how many get something."""
    return len([thing for thing in given if thing is not None])
