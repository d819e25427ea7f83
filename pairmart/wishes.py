"""Wishes: strict lists, lists with ties, how they are broken, and all lists that could be told."""

from pairmart.errors import BadSize, BadWish


class Wish:
    """A strict list, the best first; what isn't listed is worse than nothing."""

    def __init__(self, order):
        self.order = tuple(order)
        self.ranks = {one: place for place, one in enumerate(self.order)}

    def has(self, one):
        """Tell whether it lists one."""
        return one in self.ranks

    def rank(self, one):
        """Return one's place, nought for the best; for nothing how many are listed, None for what isn't listed."""
        if one is None:
            return len(self.order)
        return self.ranks.get(one)

    def better(self, one, other):
        """Tell whether one, or nothing, stands ahead of another, or nothing; what isn't listed stands last."""
        place = self.rank(one)
        other_place = self.rank(other)
        if place is None:
            return False
        return other_place is None or place < other_place

    def ahead_of(self, one):
        """Return what is listed ahead of one, or of nothing, in order."""
        return tuple([listed for listed in self.order if self.better(listed, one)])

    def worst(self, ones):
        """Return the listed one that stands last of some, None for none."""
        places = [self.ranks[one] for one in ones if self.has(one)]
        return self.order[max(places)] if places else None

    def best_of(self, ones, many):
        """Return the best so many listed ones of some, in order."""
        return tuple([listed for listed in self.order if listed in ones][:many])


def check_list(order, many):
    """Return a list as a tuple; BadWish for one told twice or not below so many."""
    found = tuple(order)
    if len(dict([(one, 1) for one in found])) != len(found):
        raise BadWish("one is told twice")
    if any([not 0 <= one < many for one in found]):
        raise BadWish("one isn't there")
    return found


def check_groups(groups, many):
    """Return groups of a list with ties as tuples in order; BadWish for a bare group and as for lists."""
    found = tuple([tuple(sorted(group)) for group in groups])
    if any([group == () for group in found]):
        raise BadWish("a group is bare")
    check_list([one for group in found for one in group], many)
    return found


def broken(groups, draw):
    """Return the strict list of groups, those of one group by their places in a draw; BadWish for one not drawn."""
    places = {one: place for place, one in enumerate(draw)}
    if any([one not in places for group in groups for one in group]):
        raise BadWish("one isn't drawn")
    found = []
    for group in groups:
        by_place = {places[one]: one for one in group}
        found.extend([by_place[place] for place in sorted(by_place)])
    return tuple(found)


def group_ranks(groups):
    """Return a table of those listed to the numbers of their groups, nought for the best."""
    return {one: number for number, group in enumerate(groups) for one in group}


def cut_after(order, one):
    """Return a list up to one, that one too; BadWish where it isn't listed."""
    if one not in order:
        raise BadWish("it isn't listed")
    return tuple(order[:order.index(one) + 1])


def moved_up(order, one):
    """Return a list with one put first, listed before or not."""
    return (one,) + tuple([listed for listed in order if listed != one])


def exchanged(order, place):
    """Return a list with those at a place and behind it exchanged; BadSize for no such places."""
    if not 0 <= place < len(order) - 1:
        raise BadSize("there are no such places")
    found = list(order)
    found[place], found[place + 1] = found[place + 1], found[place]
    return tuple(found)


def all_orders(ones):
    """Return all strict lists of all of some, by the order of their first ones as told."""
    if len(ones) == 0:
        return ((),)
    return tuple([(one,) + rest for one in ones for rest in all_orders([left for left in ones if left != one])])


def all_lists(many):
    """Return all strict lists of some below so many, shorter ones first, then in order; for up to five."""
    if many > 5:
        raise BadSize("there are too many lists")
    found = [()]
    longest = [()]
    for _ in range(many):
        longest = [order + (one,) for order in longest for one in range(many) if one not in order]
        found.extend(longest)
    return tuple(found)


def apart_of(one, other):
    """Return how many pairs two lists of the same ones put in another order; BadWish for others."""
    if sorted(one) != sorted(other):
        raise BadWish("the lists aren't of the same ones")
    wish = Wish(other)
    return len([1 for place, low in enumerate(one) for high in one[:place] if wish.better(low, high)])


def majority(orders, one, other):
    """Return by how many more lists put one ahead of another, or list it alone, than the other way round."""
    wishes = [Wish(order) for order in orders]
    ahead = len([1 for wish in wishes if wish.better(one, other)])
    behind = len([1 for wish in wishes if wish.better(other, one)])
    return ahead - behind
