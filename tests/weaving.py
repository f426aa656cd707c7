"""Channels of rows and marks for tests, and ways to weave them."""

NUMBERS = (None, 0, 1, 2, 5, -3)
TEXTS = (None, "", "x", "y")


def a_row(draw, columns, low, span=8):
    values = tuple(draw.choice(NUMBERS if kind == "number" else TEXTS) for _, kind in columns)
    return (low + draw.randint(0, span), draw.choice((1, 1, 1, -1)), values)


def a_channel(draw, columns, most, last=None):
    """Things of a channel: no row below a mark ahead of it, marks that do not fall; and this mark behind all."""
    things, mark = [], 0
    for _ in range(draw.randint(0, most)):
        if draw.random() < 0.25:
            mark += draw.choice((0, 1, 3, 4, 9))
            things.append(("mark", mark))
        else:
            things.append(("row", a_row(draw, columns, mark)))
    if last is not None:
        things.append(("mark", max(last, mark)))
    return things


def with_barriers(draw, things, numbers):
    """The things with barriers of these numbers put in anywhere, in order."""
    found, places = list(things), sorted(draw.randint(0, len(things)) for _ in numbers)
    for place, n in reversed(list(zip(places, numbers))):
        found.insert(place, ("barrier", n))
    return tuple(found)


def woven_in(draw, channels):
    """The list of (number, thing) of all channels, woven anyhow."""
    left, found = [list(things) for things in channels], []
    while any(left):
        number = draw.choice([number for number, things in enumerate(left) if things])
        found.append((number, left[number].pop(0)))
    return found


def beginnings(draw, channels):
    """A beginning of each channel."""
    return [things[:draw.randint(0, len(things))] for things in channels]


def lots_of_groups(draw, many):
    """So many ascending tuples that share nothing and are all groups together."""
    lots = [[] for _ in range(many)]
    for g in range(16):
        draw.choice(lots).append(g)
    return [tuple(lot) for lot in lots]
