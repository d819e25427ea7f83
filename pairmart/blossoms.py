"""Blossoms: most pairs among ones of one kind, and what shows that there are no more."""

from pairmart.errors import BadPaper, BadSize
from pairmart.ways import reached_from


class Friends:
    """Who may be paired with whom, both ways."""

    def __init__(self, many, links):
        if any([one == other or not 0 <= one < many or not 0 <= other < many for one, other in links]):
            raise BadSize("one isn't there, or is linked to itself")
        self.count = many
        found = {one: {} for one in range(many)}
        for one, other in links:
            found[one][other] = True
            found[other][one] = True
        self.near = {one: tuple(sorted(others)) for one, others in found.items()}

    def without(self, gone):
        """Return the friends left when some are gone, by their old numbers, as a table."""
        return {
            one: tuple([other for other in others if other not in gone])
            for one, others in self.near.items()
            if one not in gone
        }


class Forest:
    """A search for a way that makes one more pair, rings of odd length drawn together."""

    def __init__(self, near, mates):
        self.near = near
        self.mates = mates
        self.base = {}
        self.came = {}
        self.even = {}
        self.waiting = []

    def begin(self, start):
        """Begin at one without a mate."""
        self.base = {one: one for one in self.near}
        self.came = {}
        self.even = {start: True}
        self.waiting = [start]

    def up(self, one):
        """Return the bases from one up to the beginning."""
        bases = [self.base[one]]
        while self.mates.get(bases[-1]) is not None:
            bases.append(self.base[self.came[self.mates[bases[-1]]]])
        return bases

    def meet(self, one, other):
        """Return the first base that two ways up share."""
        mine = self.up(one)
        return [base for base in self.up(other) if base in mine][0]

    def mark(self, one, base, child, blossom):
        """Mark the ring's bases from one up to a base, and whence they are come to."""
        here = one
        before = child
        while self.base[here] != base:
            mate = self.mates[here]
            blossom[self.base[here]] = True
            blossom[self.base[mate]] = True
            self.came[here] = before
            before = mate
            here = self.came[mate]

    def draw_in(self, one, other):
        """Draw an odd ring together to its base."""
        base = self.meet(one, other)
        blossom = {}
        self.mark(one, base, other, blossom)
        self.mark(other, base, one, blossom)
        for inside in self.near:
            if self.base[inside] in blossom:
                self.base[inside] = base
                self.make_even(inside)

    def make_even(self, one):
        """Note that an even way leads to one, from which the search is to go on."""
        if one not in self.even:
            self.even[one] = True
            self.waiting.append(one)

    def search(self, start):
        """Return the end of a way that makes one more pair, None for none."""
        self.begin(start)
        while self.waiting != []:
            one = self.waiting.pop(0)
            for other in self.near[one]:
                if other in self.even:
                    if self.base[other] != self.base[one]:
                        self.draw_in(one, other)
                elif other not in self.came:
                    self.came[other] = one
                    if self.mates.get(other) is None:
                        return other
                    self.make_even(self.mates[other])
        return None

    def turn_over(self, end):
        """Pair along the way to an end."""
        one = end
        while one is not None:
            before = self.came[one]
            after = self.mates.get(before)
            self.mates[one] = before
            self.mates[before] = one
            one = after


def pair_up(near):
    """Return a table of mates, as many pairs as can be among a table of friends."""
    mates = {}
    for one in near:
        if one not in mates:
            forest = Forest(near, mates)
            end = forest.search(one)
            if end is not None:
                forest.turn_over(end)
    return mates


def most_pairs(friends):
    """Return each one's mate or None, as many pairs as can be."""
    mates = pair_up(friends.near)
    return tuple([mates.get(one) for one in range(friends.count)])


def pairs_without(friends, gone):
    """Return how many pairs there can be when some are gone."""
    return len(pair_up(friends.without(gone))) // 2


def hard_lot(friends):
    """Return the ones whose leaving shows that there are no more pairs: friends of those who may stay alone."""
    mates = pair_up(friends.near)
    # Those to whom even ways lead from one who stays alone may stay alone in its place.
    single = {}
    for one in friends.near:
        if one not in mates:
            forest = Forest(friends.near, mates)
            forest.search(one)
            single.update(forest.even)
    return tuple(sorted(set([other for one in single for other in friends.near[one] if other not in single])))


def parts(near):
    """Return the parts that hang together in a table of friends, each in order, by their first ones."""
    return tuple(sorted(set([tuple(sorted(reached_from(near, one))) for one in near])))


def odd_parts(friends, gone):
    """Return how many parts of odd size are left when some are gone."""
    return len([part for part in parts(friends.without(gone)) if len(part) % 2 == 1])


def check_mates(friends, mates, lot):
    """Return True where a lot shows that mates are as many pairs as can be; BadPaper."""
    if len(mates) != friends.count:
        raise BadPaper("the mates aren't as many as the friends")
    for one, other in enumerate(mates):
        if other is not None and (other not in friends.near[one] or mates[other] != one):
            raise BadPaper("these aren't pairs")
    if any([not 0 <= one < friends.count for one in lot]):
        raise BadPaper("one of the lot isn't there")
    single = len([other for other in mates if other is None])
    if odd_parts(friends, lot) - len(lot) != single:
        raise BadPaper("the lot doesn't show it")
    return True


def with_papers(friends):
    """Return (mates, the lot that shows that they are the most)."""
    return (most_pairs(friends), hard_lot(friends))
