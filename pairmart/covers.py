"""Covers: most pairs between two sides, and a cover that shows that there are no more."""

from pairmart.errors import BadPaper, BadSize


class Links:
    """Which of one side may be paired with which of the other."""

    def __init__(self, rows, many):
        self.rows = tuple([tuple(row) for row in rows])
        self.many = many
        if any([not 0 <= one < many for row in self.rows for one in row]):
            raise BadSize("one of the other side isn't there")

    def most_pairs(self):
        """Return (the other's number or None for each of the one side), as many pairs as can be."""
        owner = [None for _ in range(self.many)]
        for start in range(len(self.rows)):
            self.lengthen(owner, start)
        pairs = [None for _ in self.rows]
        for other, one in enumerate(owner):
            if one is not None:
                pairs[one] = other
        return tuple(pairs)

    def lengthen(self, owner, start):
        """Pair one more of the one side, others moved along a way; return whether it can be."""
        came = {}
        waiting = [start]
        while waiting != []:
            one = waiting.pop(0)
            for other in self.rows[one]:
                if other not in came:
                    came[other] = one
                    if owner[other] is None:
                        move_along(owner, came, other, start)
                        return True
                    waiting.append(owner[other])
        return False

    def reached(self, pairs):
        """Return (those of the one side, those of the other) that ways lead to from the unpaired ones."""
        owner = {other: one for one, other in enumerate(pairs) if other is not None}
        ones = [one for one, other in enumerate(pairs) if other is None]
        others = {}
        waiting = list(ones)
        while waiting != []:
            one = waiting.pop(0)
            for other in self.rows[one]:
                if other not in others:
                    others[other] = True
                    if other in owner:
                        ones.append(owner[other])
                        waiting.append(owner[other])
        return (tuple(sorted(ones)), tuple(sorted(others)))

    def cover(self):
        """Return (ones, others) that touch each link, as few as there are pairs."""
        ones, others = self.reached(self.most_pairs())
        return (tuple([one for one in range(len(self.rows)) if one not in ones]), others)

    def short_lot(self):
        """Return ones who may be paired with fewer than they are, None where all can be paired."""
        lot = self.reached(self.most_pairs())[0]
        return lot if lot != () else None


def move_along(owner, came, other, start):
    """Pair along the way by which an other one was come to."""
    while came[other] != start:
        one = came[other]
        before = owner.index(one)
        owner[other] = one
        other = before
    owner[other] = start


def count_pairs(pairs):
    """Return how many are paired."""
    return len([other for other in pairs if other is not None])


def check_pairs(links, pairs, cover):
    """Return True where a cover shows that pairs are as many as can be; BadPaper."""
    others = [other for other in pairs if other is not None]
    if len(pairs) != len(links.rows) or len(set(others)) != len(others):
        raise BadPaper("these aren't pairs")
    if any([other is not None and other not in links.rows[one] for one, other in enumerate(pairs)]):
        raise BadPaper("some may not be paired")
    mine, theirs = cover
    if any([one not in mine and other not in theirs for one, row in enumerate(links.rows) for other in row]):
        raise BadPaper("the cover doesn't touch each link")
    if len(mine) + len(theirs) != len(others):
        raise BadPaper("the cover isn't as many as the pairs")
    return True


def check_short(links, lot):
    """Return True where a lot shows that not all can be paired: fewer linked to it than it has; BadPaper."""
    if any([not 0 <= one < len(links.rows) for one in lot]):
        raise BadPaper("one of the lot isn't there")
    linked = len(set([other for one in lot for other in links.rows[one]]))
    if len(set(lot)) != len(lot) or linked >= len(lot):
        raise BadPaper("the lot isn't short")
    return True


def all_paired(links):
    """Return (pairs, None) where all of the one side can be paired, (None, a short lot) where not."""
    lot = links.short_lot()
    return (links.most_pairs(), None) if lot is None else (None, lot)
