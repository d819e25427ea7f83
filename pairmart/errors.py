"""The errors of pairmart: all stand under MarketFault, a ValueError."""


class MarketFault(ValueError):
    """What pairmart refuses."""


class BadWish(MarketFault):
    """A list of wishes that can't be: twice the same, or what isn't there."""


class BadRoom(MarketFault):
    """A room that can't be: its order, its seats or its kept seats."""


class BadMatch(MarketFault):
    """A matching that can't be: too many in a room, a room that isn't there, another length."""


class BadPaper(MarketFault):
    """A paper that doesn't show what it is to show."""


class BadSize(MarketFault):
    """A count or number that is out of bounds."""


class BadText(MarketFault):
    """A text that isn't one of the language."""


class BadStore(MarketFault):
    """Kept words that aren't whole."""


class NoSuch(MarketFault):
    """What isn't there."""


class BadDeed(MarketFault):
    """A deed that is not due now."""
