"""Ways: what may be come to, step by step, where a table or a row tells the next ones of each."""


def reached_from(ways, start):
    """Return a table of those that ways lead to from a start, the nearest first, to who stands ahead of them."""
    came = {start: None}
    waiting = [start]
    while waiting != []:
        one = waiting.pop(0)
        for other in ways[one]:
            if other not in came:
                came[other] = one
                waiting.append(other)
    return came


def way_to(came, end):
    """Return the way to an end, from the start on, by a table of who stands ahead of whom."""
    way = [end]
    while came[way[0]] is not None:
        way.insert(0, came[way[0]])
    return tuple(way)
