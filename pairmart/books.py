"""Books: each deed of a fair written down with a figure, and done again from the book, a torn end left out."""

from pairmart.days import Fair
from pairmart.errors import BadDeed, BadStore, BadText, MarketFault
from pairmart.texts import all_words, is_count, words_of

BASE = 9973
WIDE = 2000003
KINDS = ("come", "leave", "wish", "open", "shut", "change")


def figure_of(text):
    """Return a text's figure: its signs' numbers added up, then weighed by their places from one on."""
    signs = [ord(sign) for sign in text]
    weighed = [sign * (place + 1) for place, sign in enumerate(signs)]
    return sum(signs) % WIDE * BASE + sum(weighed) % BASE


class Deed:
    """What is done: come, leave, wish, open, shut or change, of whom, with which words, and a count for rooms."""

    def __init__(self, kind, who, words=(), count=None):
        self.kind = kind
        self.who = who
        self.words = tuple(words)
        self.count = count

    def line(self):
        """Return it as it is written."""
        counts = [] if self.count is None else [str(self.count)]
        return " ".join([self.kind, self.who] + counts + list(self.words))

    def shown(self):
        """Return (kind, who, words, count)."""
        return (self.kind, self.who, self.words, self.count)

    def do(self, fair):
        """Do it; return what changed; what fairs refuse."""
        if self.kind == "come":
            return fair.come(self.who, self.words)
        if self.kind == "leave":
            return fair.leave(self.who)
        if self.kind == "wish":
            return fair.wish(self.who, self.words)
        if self.kind == "open":
            return fair.open_room(self.who, self.words, self.count)
        if self.kind == "shut":
            return fair.shut_room(self.who)
        return fair.change_room(self.who, self.words, self.count)


def read_deed(line):
    """Return the deed of a row; BadText."""
    words = words_of(line)
    if len(words) < 2 or words[0] not in KINDS:
        raise BadText("this is no deed")
    kind, who = words[:2]
    rest = words[2:]
    count = None
    if kind in ("open", "change"):
        if rest == [] or not is_count(rest[0]):
            raise BadText("the seats aren't told")
        count = int(rest[0])
        rest = rest[1:]
    if kind in ("leave", "shut") and rest != []:
        raise BadText("the row is too long")
    all_words([who])
    return Deed(kind, who, all_words(rest), count)


class Book:
    """A fair and the text of all deeds done to it."""

    def __init__(self):
        self.fair = Fair()
        self.text = ""
        self.many = 0

    def do(self, line):
        """Do a row's deed and write it down; return what changed; a refusal writes nothing."""
        return self.put(read_deed(line))

    def put(self, deed):
        """Do a deed and write it down; return what changed."""
        changes = deed.do(self.fair)
        body = f"{self.many} {deed.line()}"
        self.text += f"{body} {figure_of(body)}\n"
        self.many += 1
        return changes


def row_deed(line, number):
    """Return the deed of a written row; BadStore for another number or figure, or no deed."""
    body, _, figure = line.rpartition(" ")
    head, _, rest = body.partition(" ")
    if head != str(number) or figure != str(figure_of(body)):
        raise BadStore("the row isn't whole")
    try:
        return read_deed(rest)
    except BadText:
        raise BadStore("the row has no deed") from None


def deeds_of(text):
    """Return the deeds of a book's text, a row without an end left out; BadStore."""
    # What stands behind the last end is a torn row, or nothing.
    rows = text.split("\n")[:-1]
    return tuple([row_deed(row, number) for number, row in enumerate(rows)])


def put_again(book, deed):
    """Do a kept deed to a book; BadStore for one that can't be done."""
    try:
        book.put(deed)
    except MarketFault:
        raise BadStore("a kept deed can't be done") from None


def done_again(text):
    """Return the book that a text's deeds make from nothing; BadStore for what can't be."""
    book = Book()
    for deed in deeds_of(text):
        put_again(book, deed)
    return book


def stages(text):
    """Return who has what after each of a text's deeds, nothing first; BadStore."""
    book = Book()
    found = [book.fair.match()]
    for deed in deeds_of(text):
        put_again(book, deed)
        found.append(book.fair.match())
    return tuple(found)


def undone(book, many):
    """Return a book of all deeds but the last so many; BadDeed for more than there are."""
    if not 0 <= many <= book.many:
        raise BadDeed("there aren't so many deeds")
    rows = book.text.split("\n")[:book.many - many]
    return done_again("".join([f"{row}\n" for row in rows]))
