"""Eatings: chances shared out as all eat their best thing left at one pace, and what they are worth."""

from math import gcd

from pairmart.errors import BadSize
from pairmart.ways import reached_from
from pairmart.wishes import Wish, check_list

NONE = (0, 1)


def shared(one, other):
    """Return the greatest number that goes into both."""
    return gcd(one, other)


class Part:
    """A part of a whole: how many of how many, made small, the low above nought."""

    def __init__(self, top, low):
        if low == 0:
            raise BadSize("nothing is parted into no parts")
        both = shared(top, low) if low > 0 else -shared(top, low)
        self.top = top // both
        self.low = low // both

    def plus(self, other):
        """Return both added up."""
        return Part(self.top * other.low + other.top * self.low, self.low * other.low)

    def minus(self, other):
        """Return it less another."""
        return Part(self.top * other.low - other.top * self.low, self.low * other.low)

    def over(self, number):
        """Return it in so many parts."""
        return Part(self.top, self.low * number)

    def below(self, other):
        """Tell whether it is less than another."""
        return self.top * other.low < other.top * self.low

    def shown(self):
        """Return (top, low)."""
        return (self.top, self.low)


class Meal:
    """Who lists what, how much of each thing is left, and how much each has had of it."""

    def __init__(self, lists, many):
        self.lists = tuple([check_list(order, many) for order in lists])
        self.left = [Part(1, 1) for _ in range(many)]
        self.had = [[Part(0, 1) for _ in range(many)] for _ in self.lists]
        self.clock = Part(0, 1)
        self.steps = []

    def bite(self, one):
        """Return one's best thing that is left, None for none."""
        for thing in self.lists[one]:
            if self.left[thing].shown() != NONE:
                return thing
        return None

    def eaters(self):
        """Return a table of things to who eats them now."""
        bites = [self.bite(one) for one in range(len(self.lists))]
        return {
            thing: tuple([one for one, bite in enumerate(bites) if bite == thing])
            for thing in bites
            if thing is not None
        }

    def eat(self):
        """Eat until a thing is eaten up or the time is one; return whether anything was eaten."""
        eaters = self.eaters()
        step = Part(1, 1).minus(self.clock)
        if eaters == {} or step.shown() == NONE:
            return False
        for thing, ones in eaters.items():
            lasts = self.left[thing].over(len(ones))
            step = lasts if lasts.below(step) else step
        for thing, ones in eaters.items():
            for one in ones:
                self.left[thing] = self.left[thing].minus(step)
                self.had[one][thing] = self.had[one][thing].plus(step)
        self.clock = self.clock.plus(step)
        self.steps.append(self.clock.shown())
        return True


def eaten(lists, many):
    """Return the meal of lists when it is over."""
    meal = Meal(lists, many)
    while meal.eat():
        pass
    return meal


def shares(lists, many):
    """Return each one's chances of each of so many things, (top, low), when all eat at one pace for a time of one."""
    return tuple([tuple([part.shown() for part in row]) for row in eaten(lists, many).had])


def times(lists, many):
    """Return the times at which a thing was eaten up, or all was over, in order."""
    return tuple(eaten(lists, many).steps)


def running(chances):
    """Return the parts that chances, told one by one, add up to so far."""
    found = []
    total = Part(0, 1)
    for top, low in chances:
        total = total.plus(Part(top, low))
        found.append(total)
    return found


def sums_down(order, row):
    """Return how much of its first thing, its first two and so on one's list gets by a row of chances."""
    return tuple([part.shown() for part in running([row[thing] for thing in order])])


def as_much(order, one, other):
    """Tell whether one row of chances gives a list at least as much of its first ones, however many, as another."""
    mine = running([one[thing] for thing in order])
    theirs = running([other[thing] for thing in order])
    return not any([much.below(also) for much, also in zip(mine, theirs)])


def wanted_more(lists, rows):
    """Return the (better thing, worse thing) where one has a chance of the worse and lists the better, in order."""
    return tuple(sorted(set([
        (better, worse)
        for order, row in zip(lists, rows)
        for worse, chance in enumerate(row)
        for better in Wish(order).ahead_of(worse)
        if chance[0] > 0
    ])))


def is_tight(lists, rows):
    """Tell whether no ring of things could be passed round to the good of all who pass: none leads back."""
    pairs = wanted_more(lists, rows)
    ways = {thing: [] for pair in pairs for thing in pair}
    for better, worse in pairs:
        ways[better].append(worse)
    return not any([better in reached_from(ways, worse) for better, worse in pairs])


def whole_of(rows, thing):
    """Return how much of a thing is given in all."""
    total = Part(0, 1)
    for part in running([row[thing] for row in rows]):
        total = part
    return total.shown()
