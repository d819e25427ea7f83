"""Liked: things given to askers so that no other giving would win a vote, or a lot that shows there is none."""

from pairmart.covers import Links, all_paired
from pairmart.errors import BadPaper
from pairmart.wishes import Wish, check_list


class Votes:
    """Askers' lists of things: each asker's first thing, and its next thing that is nobody's first."""

    def __init__(self, lists, many):
        self.lists = tuple([check_list(order, many) for order in lists])
        self.things = many
        self.firsts = tuple(sorted(set([order[0] for order in self.lists if order != ()])))

    def first(self, asker):
        """Return an asker's first thing, None for none."""
        order = self.lists[asker]
        return order[0] if order != () else None

    def second(self, asker):
        """Return an asker's best thing that is nobody's first, None for nothing."""
        for thing in self.lists[asker]:
            if thing not in self.firsts:
                return thing
        return None

    def choices(self):
        """Return each asker's first and second, nothing of its own told by numbers past the things."""
        found = []
        for asker in range(len(self.lists)):
            first, second = self.first(asker), self.second(asker)
            own = self.things + asker
            found.append((own if first is None else first, own if second is None else second))
        return found


def most_liked(lists, many):
    """Return (each asker's thing or None, None), or (None, askers whose choices are fewer than they are)."""
    votes = Votes(lists, many)
    given, lot = all_paired(Links(votes.choices(), many + len(votes.lists)))
    if lot is not None:
        return (None, lot)
    return (raised(votes, [thing if thing < many else None for thing in given]), None)


def raised(votes, given):
    """Return a giving in which each first thing has somebody, the lowest who has it first raised to it."""
    found = list(given)
    bare = bare_firsts(votes, found)
    # Whoever is raised may leave another first thing bare, but never leaves its own again.
    while bare != []:
        wanting = [asker for asker in range(len(found)) if votes.first(asker) == bare[0]]
        found[wanting[0]] = bare[0]
        bare = bare_firsts(votes, found)
    return tuple(found)


def bare_firsts(votes, given):
    """Return the first things that nobody has, in order."""
    return [thing for thing in votes.firsts if thing not in given]


def vote(lists, one, other):
    """Return how many would rather have one giving less how many would rather have another."""
    wishes = [Wish(order) for order in lists]
    ahead = len([1 for asker, wish in enumerate(wishes) if wish.better(one[asker], other[asker])])
    behind = len([1 for asker, wish in enumerate(wishes) if wish.better(other[asker], one[asker])])
    return ahead - behind


def is_giving(lists, given):
    """Tell whether each has a thing it lists or nothing, and no thing is given twice."""
    things = [thing for thing in given if thing is not None]
    if len(given) != len(lists) or len(set(things)) != len(things):
        return False
    return all([thing is None or thing in order for thing, order in zip(given, lists)])


def by_choices(lists, many, given):
    """Tell whether a giving is one of firsts and seconds in which each first thing is given."""
    votes = Votes(lists, many)
    if not is_giving(votes.lists, given) or bare_firsts(votes, given) != []:
        return False
    return all([thing in (votes.first(asker), votes.second(asker)) for asker, thing in enumerate(given)])


def check_lot(lists, many, lot):
    """Return True where a lot shows that each giving loses a vote: its choices are fewer than it is; BadPaper."""
    choices = Votes(lists, many).choices()
    if any([not 0 <= one < len(lists) for one in lot]) or len(dict([(one, 1) for one in lot])) != len(lot):
        raise BadPaper("one isn't there, or is told twice")
    if len(dict([(thing, 1) for one in lot for thing in choices[one]])) >= len(lot):
        raise BadPaper("the lot isn't short")
    return True
