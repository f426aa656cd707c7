"""Worlds and scripts for tests, drawn by chance that is the same in each run."""

from oncestream.nets import can_move
from oncestream.planner import planned
from oncestream.queries import columns_of, judge_query, sources_of
from oncestream.shelves import tasks_on
from oncestream.world import input_of, new_world, places_read
from tests.makers import a_query

INNER = ("feed", "read", "move", "begin", "hear", "fall", "workers")
KEEPS = (0, 1, 5, 20, 40, 60, 80, 100, 150, 10 ** 6)


def some_workers(draw, plan, most=3):
    return tuple(sorted((name, draw.randint(1, most)) for name, _ in plan))


def all_feeds(draw, fed):
    """The events by which an input is fed, each part's entries in order."""
    left, found = {(name, number): list(part) for name in fed for number, part in enumerate(fed[name])}, []
    while any(left.values()):
        part = draw.choice([part for part in left if left[part]])
        found.append(("feed",) + part + (left[part].pop(0),))
    return found


def an_event(draw, world, feeds, bad):
    """An event of the world; bad tells how often something falls, of a thousand."""
    chance, k = draw.randrange(1000), draw.randrange(10 ** 6)
    if chance < bad:
        word = draw.choice(("fall", "stop", "workers", "torn", "torn"))
        if word == "workers":
            return ("workers", some_workers(draw, world["plan"]))
        if word != "torn":
            return (word,)
        word = draw.choice(INNER)
        if word == "feed" and feeds:
            inner = feeds.pop(0)
        elif word == "workers":
            inner = ("workers", some_workers(draw, world["plan"]))
        else:
            inner = (word,) if word in ("begin", "fall") else (word if word != "feed" else "hear", k)
        return ("torn", inner, draw.choice(KEEPS))
    chance = draw.randrange(1000)
    if chance < 60:
        return (draw.choice(("lose", "double")), k)
    if chance < 100 and feeds:
        return feeds.pop(0)
    if chance < 160:
        return ("read", k)
    if chance < 200:
        return ("begin",)
    if chance < 220:
        return ("again",)
    return ("hear", k) if chance < 500 + 20 * min(len(world["air"]), 12) else ("move", k)


def calm_event(world):
    """The event that comes next in a calm run, as 13.5 tells it; None behind the last one."""
    control = world["control"]
    for place, letter in enumerate(world["air"]):
        if letter[0] == "begin" and letter[1] == control["epoch"] and letter[2] > control["last"] and letter[3] not in tasks_on(world["shelf"], letter[1], letter[2]):
            if world["net"]["tasks"][letter[3]]["outbox"]:
                continue
        return ("hear", place)
    if can_move(world["net"]):
        return ("move", 0)
    fed = input_of(world)
    for (source, part), place in places_read(world):
        task = (source, part % dict(world["workers"])[source])
        if place < len(fed[source][part]) and not world["net"]["tasks"][task]["outbox"]:
            return ("read", 0)
    if control["phase"] != "run":
        return ("again",)
    return ("begin",) if not world["cuts"] or world["cuts"][-1][1] != places_read(world) else None


def a_part(draw, columns, most):
    """Rows and marks that rise, late rows among them."""
    entries, time = [], 0
    for _ in range(draw.randint(most // 2, most)):
        if draw.random() < 0.4:
            time += draw.randint(0, 7)
            entries.append(("mark", max(0, time - draw.choice((0, 0, 0, 4)))))
        else:
            values = tuple(draw.choice((None, 0, 1, 2, 5) if kind == "number" else (None, "", "x", "y")) for _, kind in columns)
            entries.append(("row", max(0, time + draw.randint(-4, 6)), draw.choice((1, 1, 1, -1)), values))
    return tuple(entries)


def a_case(draw, steps=5, most=8):
    """A query, a plan of it (perhaps the query itself), and an input."""
    query = a_query(draw, draw.randint(1, steps), judge_query, columns_of)
    plan = planned(query)[0] if draw.random() < 0.5 else query
    many = {name: draw.choice((0, 1, 1, 1, 2, 2)) for name in sources_of(query)}
    return query, plan, {name: tuple(a_part(draw, columns_of(query, name), most) for _ in range(many[name])) for name in many}


def a_world(draw, plan, fed, most=2):
    return new_world(plan, {name: len(fed[name]) for name in fed}, some_workers(draw, plan, most), draw.choice((1, 1, 2, 5)))
