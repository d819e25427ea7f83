"""Worths: pairs of the greatest worth in all, and prices that show it."""

from pairmart.errors import BadPaper, BadSize


def check_worths(rows):
    """Return rows of worths, as long as each other, none below nought; BadSize."""
    found = [tuple(row) for row in rows]
    if any([len(row) != len(found[0]) or any([much < 0 for much in row]) for row in found]):
        raise BadSize("these aren't worths")
    return found


def width_of(rows):
    """Return how many columns rows have, nought for no rows."""
    return len(rows[0]) if len(rows) > 0 else 0


class Search:
    """Costs, both sides' prices and who has which column, one row put in after another."""

    def __init__(self, rows):
        self.many = len(rows)
        # Columns of no worth stand in where there are more rows than columns, so that each row has one.
        self.wide = max(width_of(rows), self.many)
        self.costs = [[-much for much in row] + [0] * (self.wide - len(row)) for row in rows]
        self.left = [0] * self.many
        self.right = [0] * self.wide
        self.owner = [None] * self.wide

    def put_in(self, row):
        """Put one more row in along the cheapest way."""
        used = [False] * self.wide
        best = [None] * self.wide
        came = [None] * self.wide
        here = row
        column = None
        while here is not None:
            self.look(here, column, used, best, came)
            column = min([free for free in range(self.wide) if not used[free]], key=lambda other: best[other])
            self.shift(row, used, best, best[column])
            used[column] = True
            here = self.owner[column]
        while came[column] is not None:
            self.owner[column] = self.owner[came[column]]
            column = came[column]
        self.owner[column] = row

    def look(self, here, column, used, best, came):
        """Make the ways to columns cheaper by way of a row."""
        for other in range(self.wide):
            cost = self.costs[here][other] - self.left[here] - self.right[other]
            if not used[other] and (best[other] is None or cost < best[other]):
                best[other] = cost
                came[other] = column

    def shift(self, row, used, best, step):
        """Shift the prices so that one more column may be had at no loss."""
        self.left[row] = self.left[row] + step
        for column in range(self.wide):
            if used[column]:
                self.left[self.owner[column]] = self.left[self.owner[column]] + step
                self.right[column] = self.right[column] - step
            else:
                best[column] = best[column] - step


def best_pairs(rows):
    """Return (a column or None for each row, rows' gains, columns' prices): pairs of the greatest worth in all."""
    found = check_worths(rows)
    search = Search(found)
    for row in range(len(found)):
        search.put_in(row)
    many = width_of(found)
    columns = {row: column for column, row in enumerate(search.owner[:many]) if row is not None}
    pairs = tuple([columns.get(row) for row in range(len(found))])
    return (pairs, tuple([-cost for cost in search.left]), tuple([-cost for cost in search.right[:many]]))


def worth_of(rows, pairs):
    """Return the worth of pairs in all."""
    return sum([rows[row][column] for row, column in enumerate(pairs) if column is not None])


def greatest(rows):
    """Return the greatest worth of any pairs."""
    return worth_of(rows, best_pairs(rows)[0])


def check_worth(rows, pairs, gains, prices):
    """Return True where gains and prices show that pairs have the greatest worth; BadPaper."""
    wide = width_of(rows)
    columns = [column for column in pairs if column is not None]
    sizes = (len(pairs), len(gains), len(prices))
    if sizes != (len(rows), len(rows), wide) or any([not 0 <= column < wide for column in columns]):
        raise BadPaper("a row or a column isn't there")
    if len(set(columns)) != len(columns):
        raise BadPaper("a column is told twice")
    if any([one < 0 for one in gains]) or any([one < 0 for one in prices]):
        raise BadPaper("a gain or a price is below nought")
    for row, worths in enumerate(rows):
        if any([gains[row] + prices[column] < worth for column, worth in enumerate(worths)]):
            raise BadPaper("a gain and a price are too low")
    if sum(gains) + sum(prices) != worth_of(rows, pairs):
        raise BadPaper("gains and prices don't add up to the worth")
    return True


def without_row(rows, row):
    """Return worths without a row."""
    return [told for place, told in enumerate(rows) if place != row]


def without_column(rows, column):
    """Return worths without a column."""
    return [told[:column] + told[column + 1:] for told in rows]


def adds(rows, row):
    """Return how much a row adds to the greatest worth."""
    return greatest(rows) - greatest(without_row(rows, row))


def column_adds(rows, column):
    """Return how much a column adds to the greatest worth."""
    return greatest(rows) - greatest(without_column(rows, column))
