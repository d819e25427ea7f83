"""Mates: ones of one kind with lists of each other, paired so that no two would rather be together, or none can be."""

from pairmart.errors import BadPaper, BadWish
from pairmart.wishes import Wish, check_list


class Table:
    """Lists as they shrink, who asked whom, and each step of the way."""

    def __init__(self, lists):
        self.full = tuple([Wish(check_list(order, len(lists))) for order in lists])
        if any([wish.has(one) for one, wish in enumerate(self.full)]):
            raise BadWish("one lists itself")
        self.left = [
            [other for other in wish.order if self.full[other].has(one)] for one, wish in enumerate(self.full)
        ]
        self.steps = []

    def drop(self, one, other):
        """Take two off each other's lists."""
        if other in self.left[one]:
            self.left[one].remove(other)
        if one in self.left[other]:
            self.left[other].remove(one)

    def cut_behind(self, one, other):
        """Take all behind another off one's list."""
        # The places are those of the full list: of a ring turned, another may be off the list by now.
        for behind in list(self.left[one]):
            if self.full[one].better(other, behind):
                self.drop(one, behind)

    def is_due(self, one):
        """Tell whether one is to ask: its first has somebody behind it."""
        return self.left[one] != [] and self.left[self.left[one][0]][-1] != one

    def ask(self, one):
        """Let one ask its first, who drops all behind it."""
        first = self.left[one][0]
        self.steps.append(("ask", one, first))
        self.cut_behind(first, one)

    def ask_round(self):
        """Let each ask its first; who is asked drops all behind the asker; until nothing moves."""
        while not self.is_even():
            for one in range(len(self.left)):
                if self.is_due(one):
                    self.ask(one)

    def ring(self):
        """Return ((one, its first, its second) round a ring), from the lowest who has two left on, None for none."""
        way = [one for one, row in enumerate(self.left) if len(row) > 1][:1]
        if way == []:
            return None
        after = self.left[self.left[way[-1]][1]][-1]
        while after not in way:
            way.append(after)
            after = self.left[self.left[after][1]][-1]
        return tuple([(one, self.left[one][0], self.left[one][1]) for one in way[way.index(after):]])

    def turn(self, ring):
        """Turn a ring: each second drops all behind the one who asks it next."""
        self.steps.append(("turn", tuple(ring)))
        for one, _, second in ring:
            self.cut_behind(second, one)

    def is_even(self):
        """Tell whether each one's first has it last: nobody is left to ask."""
        return not any([self.is_due(one) for one in range(len(self.left))])

    def is_bare(self, had):
        """Tell whether one who had somebody left has nobody now."""
        return any([self.left[one] == [] for one in had])


def who_have(table):
    """Return those who have somebody left, in order."""
    return tuple([one for one, row in enumerate(table.left) if row != []])


def gone_through(lists):
    """Return (the table when it can go no further, those who had somebody left when the rings began)."""
    table = Table(lists)
    table.ask_round()
    had = who_have(table)
    ring = table.ring()
    while ring is not None:
        table.turn(ring)
        ring = table.ring() if not table.is_bare(had) else None
    return (table, had)


def search(lists):
    """Return the table when it can go no further: each with one left at most, or one left bare by a ring."""
    return gone_through(lists)[0]


def pair_off(lists):
    """Return each one's mate or None where no two would rather be together; None where that can't be."""
    table, had = gone_through(lists)
    if table.is_bare(had):
        return None
    return tuple([row[0] if row != [] else None for row in table.left])


def steps_of(lists):
    """Return the steps of the way: asks and rings."""
    return tuple(search(lists).steps)


def blocking(lists, mates):
    """Return the pairs, lower one first, that would both rather be together, in order."""
    wishes = [Wish(order) for order in lists]
    return tuple([
        (one, other)
        for one, wish in enumerate(wishes)
        for other in sorted(wish.order)
        if one < other and wish.better(other, mates[one]) and wishes[other].better(one, mates[other])
    ])


def are_mates(lists, mates):
    """Tell whether mates go both ways and list each other."""
    if len(mates) != len(lists):
        return False
    return all([
        other is None or (other in lists[one] and mates[other] == one) for one, other in enumerate(mates)
    ])


def is_settled(lists, mates):
    """Tell whether mates are mates and no two would rather be together."""
    return are_mates(lists, mates) and blocking(lists, mates) == ()


def check_steps(lists, steps):
    """Return True where steps, each one due, leave somebody bare by a ring: no mates can be settled; BadPaper."""
    table = Table(lists)
    had = None
    for step in steps:
        if step[0] == "ask":
            check_ask(table, step)
        else:
            if not table.is_even():
                raise BadPaper("an ask is due")
            if had is None:
                had = who_have(table)
            check_ring(table, step[1])
    if had is None or not table.is_bare(had):
        raise BadPaper("nobody is left bare by a ring")
    return True


def check_ask(table, step):
    """Do an ask that is due; BadPaper."""
    _, one, first = step
    if not 0 <= one < len(table.left) or table.left[one] == [] or table.left[one][0] != first:
        raise BadPaper("the ask isn't due")
    table.ask(one)


def check_ring(table, ring):
    """Turn a ring that is due: each first is held by none behind, each second's last is the next; BadPaper."""
    if len(ring) == 0:
        raise BadPaper("nobody is in the ring")
    for place, (one, first, second) in enumerate(ring):
        if not 0 <= one < len(table.left) or tuple(table.left[one][:2]) != (first, second):
            raise BadPaper("these aren't one's first and second")
        after = ring[(place + 1) % len(ring)][0]
        if table.left[second][-1] != after or table.left[first][-1] != one:
            raise BadPaper("this is no ring")
    table.turn(ring)
