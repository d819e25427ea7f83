"""Circles: everybody owns one thing, lists all, and things go round in circles."""

from pairmart.errors import BadWish
from pairmart.ways import reached_from, way_to
from pairmart.wishes import Wish, all_orders, check_list


def check_lists(lists):
    """Return lists in which each lists all things; BadWish for others."""
    many = len(lists)
    found = [check_list(order, many) for order in lists]
    if any([len(order) != many for order in found]):
        raise BadWish("a list doesn't list all")
    return found


def circle_from(points, start):
    """Return the circle that pointing leads to from a start, from its lowest on."""
    way = [start]
    while points[way[-1]] not in way:
        way.append(points[way[-1]])
    circle = way[way.index(points[way[-1]]):]
    lowest = circle.index(min(circle))
    return tuple(circle[lowest:] + circle[:lowest])


def best_left(order, gone):
    """Return the first thing of a list that isn't gone, None for none."""
    for thing in order:
        if thing not in gone:
            return thing
    return None


def rounds(lists):
    """Return, round by round, the circles of those left who point to their best thing left, by their lowest."""
    found = check_lists(lists)
    gone = {}
    told = []
    while len(gone) < len(found):
        points = {one: best_left(order, gone) for one, order in enumerate(found) if one not in gone}
        circles = tuple(sorted(set([circle_from(points, one) for one in points])))
        told.append(circles)
        gone.update({one: True for circle in circles for one in circle})
    return tuple(told)


def after_in(ring, place):
    """Return who stands behind a place of a ring."""
    return ring[(place + 1) % len(ring)]


def exchanged_by(rings, many):
    """Return who gets whose thing when circles go round, each the next one's."""
    found = list(range(many))
    for ring in rings:
        for place, one in enumerate(ring):
            found[one] = after_in(ring, place)
    return tuple(found)


def trade(lists):
    """Return whose thing each gets by circles."""
    return exchanged_by(paper(lists), len(lists))


def gains(lists, got, lot):
    """Return how a lot could go round its own things so that none of it is worse and one better; None if it can't."""
    wishes = [Wish(lists[one]) for one in lot]
    had = [got[one] for one in lot]
    for way in all_ways(lot):
        better = [wish.better(thing, was) for wish, thing, was in zip(wishes, way, had)]
        worse = [wish.better(was, thing) for wish, thing, was in zip(wishes, way, had)]
        if any(better) and not any(worse):
            return way
    return None


def all_ways(things):
    """Return all orders of things, by the first ones as told."""
    return all_orders(things)


def is_firm(lists, got):
    """Tell whether no lot could do better by itself: none of it worse, one better."""
    # A lot that could holds a circle with one better and none worse in it, which could by itself: so it is enough
    # that no better thing leads back, by things no worse, to the one who would rather have it.
    wishes = [Wish(order) for order in lists]
    no_worse = [
        [thing for thing in range(len(lists)) if not wish.better(got[one], thing)] for one, wish in enumerate(wishes)
    ]
    return not any([
        wish.better(thing, got[one]) and one in reached_from(no_worse, thing)
        for one, wish in enumerate(wishes)
        for thing in no_worse[one]
    ])


def power_of_two(many):
    """Return two to a power."""
    return 1 << many


def paper(lists):
    """Return the circles in the order in which they go, as a paper that shows who gets what."""
    return tuple([circle for circles in rounds(lists) for circle in circles])


def check_paper(lists, got, rings):
    """Tell whether circles show that what each gets is its best of what is left when its circle goes."""
    if len(got) != len(lists):
        return False
    gone = {}
    for ring in rings:
        if not may_go(lists, got, ring, gone):
            return False
        gone.update({one: True for one in ring})
    return len(gone) == len(lists)


def may_go(lists, got, ring, gone):
    """Tell whether a circle is of unlike ones left, each of whom gets the next one's thing, its best thing left."""
    if len(set(ring)) != len(ring) or any([not 0 <= one < len(lists) or one in gone for one in ring]):
        return False
    return all([
        got[one] == after_in(ring, place) and got[one] == best_left(lists[one], gone) for place, one in enumerate(ring)
    ])


def improved(lists, got):
    """Return the first circle by which some could exchange what they got, all better off, None for none."""
    wishes = [Wish(order) for order in lists]
    rather = [
        [other for other, thing in enumerate(got) if wish.better(thing, got[one])] for one, wish in enumerate(wishes)
    ]
    for start in range(len(lists)):
        came = reached_from(rather, start)
        for one in came:
            if start in rather[one]:
                return way_to(came, one)
    return None


def in_turn(lists, order):
    """Return what each gets when they take their best thing left, one by one in an order; None for nothing left."""
    found = [None for _ in lists]
    gone = {}
    for one in order:
        found[one] = best_left(lists[one], gone)
        gone[found[one]] = True
    return tuple(found)


def turn_for(lists, got):
    """Return an order of taking turns that gives what each got, the lowest first who may; None where none does."""
    if len(got) != len(lists):
        return None
    order = []
    gone = {}
    waiting = list(range(len(lists)))
    while waiting != []:
        ready = [one for one in waiting if best_left(lists[one], gone) == got[one]]
        if ready == []:
            return None
        # Taking what one is to have never hinders the others: none of them is to have it.
        order.append(ready[0])
        waiting.remove(ready[0])
        gone[got[ready[0]]] = True
    return tuple(order)
