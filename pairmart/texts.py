"""Texts: a market written row by row, read and told again."""

from pairmart.days import Fair
from pairmart.errors import BadDeed, BadRoom, BadText, BadWish

SMALL = "abcdefghijklmnopqrstuvwxyz"
INNER = "abcdefghijklmnopqrstuvwxyz0123456789_"
FIGURES = "0123456789"
MOST_FIGURES = 6


def is_word(word):
    """Tell whether a word is one: a small letter first, small letters, figures and low strokes."""
    return word != "" and word[0] in SMALL and all([sign in INNER for sign in word])


def is_count(word):
    """Tell whether a word is a count: one to six figures."""
    return 1 <= len(word) <= MOST_FIGURES and all([sign in FIGURES for sign in word])


def parts_of(line):
    """Return what stands between the blanks of a row, however many there are."""
    return [part for part in line.split(" ") if part != ""]


def words_of(line):
    """Return the words of a row, blanks between; BadText for another sign."""
    found = parts_of(line)
    if any([not is_word(word) and not is_count(word) for word in found]):
        raise BadText("there is something that is no word")
    return found


def all_words(words):
    """Return words that are all words; BadText for a count among them."""
    if any([not is_word(word) for word in words]):
        raise BadText("one of them is no word")
    return words


def read_row(fair, line):
    """Read one row into a fair: "asker" and its list, or "room", its seats and its order; BadText."""
    head, mark, tail = line.partition(":")
    words = words_of(head)
    if mark == "" or len(words) < 2:
        raise BadText("this is no row")
    order = all_words(words_of(tail))
    all_words(words[:2])
    try:
        if words[0] == "asker" and len(words) == 2:
            fair.come(words[1], order)
        elif words[0] == "room" and len(words) == 3 and is_count(words[2]):
            fair.open_room(words[1], order, int(words[2]))
        else:
            raise BadText("this is no row")
    except (BadDeed, BadRoom, BadWish):
        raise BadText("the row can't be done") from None


def read(text):
    """Return the fair of a text, bare rows left out; BadText."""
    fair = Fair()
    for line in text.split("\n"):
        if parts_of(line) != []:
            read_row(fair, line)
    return fair


def row_of(head, words):
    """Return a row of a head, ":" right behind it, and words, with its end."""
    return " ".join([f"{head}:"] + list(words)) + "\n"


def told(fair):
    """Return a fair's text: rooms first, then askers, in order."""
    askers, rooms = fair.shown()
    rows = [row_of(f"room {room} {count}", order) for room, order, count in rooms]
    return "".join(rows + [row_of(f"asker {asker}", order) for asker, order in askers])


def or_stroke(room):
    """Return a room's word, a stroke for none."""
    return "-" if room is None else room


def told_match(fair):
    """Return who has what, a row each, in order."""
    return "".join([f"{asker} {or_stroke(room)}\n" for asker, room in fair.match()])


def read_groups(text):
    """Return a list with ties: groups in round brackets, words else alone; BadText."""
    found = []
    inside = None
    for part in parts_of(text.replace("(", " ( ").replace(")", " ) ")):
        if part == "(":
            if inside is not None:
                raise BadText("a bracket stands within others")
            inside = []
        elif part == ")":
            if inside is None or inside == []:
                raise BadText("brackets hold nothing")
            found.append(tuple(inside))
            inside = None
        elif inside is None:
            found.append(tuple(all_words([part])))
        else:
            inside.extend(all_words([part]))
    if inside is not None:
        raise BadText("a bracket doesn't end")
    return tuple(found)


def told_group(group):
    """Return a group as it is written: one alone, more in brackets."""
    words = " ".join(list(group))
    return f"({words})" if len(group) > 1 else words


def told_groups(groups):
    """Return a list with ties as it is written."""
    return " ".join([told_group(group) for group in groups])
