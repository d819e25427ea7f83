"""Sessions: a book spoken to line by line, with papers, and reasons why not."""

from pairmart.books import KINDS, Book
from pairmart.errors import BadDeed, BadMatch, BadPaper, BadRoom, BadSize, BadText, BadWish, MarketFault, NoSuch
from pairmart.lies import best_lie
from pairmart.papers import both_papers, check_both
from pairmart.texts import or_stroke, told, told_match, words_of
from pairmart.turns import all_stable


class Session:
    """A book and what is asked of it."""

    def __init__(self, book=None):
        self.book = Book() if book is None else book

    def say(self, line):
        """Do or answer a line; return the lines it answers, ("error: ...",) for what is refused."""
        try:
            return self.do(line)
        except BadText:
            word = "text"
        except BadWish:
            word = "wish"
        except BadRoom:
            word = "room"
        except BadDeed:
            word = "deed"
        except NoSuch:
            word = "no such"
        except BadSize:
            word = "size"
        except (BadMatch, BadPaper):
            word = "paper"
        return (f"error: {word}",)

    def do(self, line):
        """Do or answer a line by its first word; BadText for another."""
        words = words_of(line)
        if words == []:
            raise BadText("the line is bare")
        if words[0] in KINDS:
            return tuple([told_change(change) for change in self.book.do(line)])
        return self.answer(words)

    def answer(self, words):
        """Return the lines that answer what is asked; BadText for another."""
        fair = self.book.fair
        if words == ["show"]:
            return rows_of(told_match(fair))
        if words == ["tell"]:
            return rows_of(told(fair))
        if words == ["count"]:
            return (str(len(all_stable(fair.as_market()))),)
        if words == ["paper"]:
            stable, best = self.paper()
            return (f"{stable} {best}",)
        if words[0] == "lie" and len(words) == 2:
            return self.lie(words[1])
        if words[0] == "why" and len(words) == 3:
            return (self.why(words[1], words[2]),)
        raise BadText("no session knows the line")

    def number(self, words, word):
        """Return a word's number; NoSuch."""
        if word not in words:
            raise NoSuch("the word isn't there")
        return words.index(word)

    def paper(self):
        """Return how many rows the papers of the matching that stands have, once they are looked through; BadPaper."""
        market = self.book.fair.as_market()
        match = self.book.fair.by_numbers()
        papers = both_papers(market, match)
        check_both(market, match, papers)
        return (len(papers[0]), len(papers[1]))

    def why(self, asker, room):
        """Return why an asker hasn't a room, or that it has it."""
        askers, rooms = self.book.fair.names()
        one, other = self.number(askers, asker), self.number(rooms, room)
        market = self.book.fair.as_market()
        had = self.book.fair.by_numbers()[one]
        if had == other:
            return "has it"
        if not market.likes(one, other):
            return "not both list it"
        # What stands is the best that any stable matching gives it, so that a room it would rather have is in none.
        if market.askers[one].better(other, had):
            return "never: no stable matching"
        return "has better"

    def lie(self, asker):
        """Return whether another list would get an asker better; NoSuch, BadSize."""
        one = self.number(self.book.fair.names()[0], asker)
        found = best_lie(self.book.fair.as_market(), one)
        return ("none helps",) if found is None else ("one helps",)


def told_change(change):
    """Return a change as it is written: asker, room before, room now, a stroke for none."""
    asker, before, now = change
    return f"{asker} {or_stroke(before)} {or_stroke(now)}"


def rows_of(text):
    """Return the rows of a text, without their ends."""
    rows = text.split("\n")
    # Behind the last end stands no row.
    return tuple(rows[:-1] if rows[-1] == "" else rows)


def all_said(lines):
    """Return the answers of a new session to lines, in order."""
    session = Session()
    return tuple([session.say(line) for line in lines])


def is_fault(error):
    """Tell whether an answer is a refusal."""
    # An answer is lines; one of its lines may be asked for alone.
    lines = (error,) if isinstance(error, str) else error
    return any([line.startswith("error: ") for line in lines])


def faults(answers):
    """Return the places of the answers that are refusals."""
    return tuple([place for place, answer in enumerate(answers) if is_fault(answer)])


def refuse(word):
    """Refuse with MarketFault: for what no session knows."""
    raise MarketFault(f"no session knows {word}")
