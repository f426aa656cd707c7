"""What a world has told outside, and what the plain meaning tells of as much of its input."""

from oncestream.bags import bag_of, taken, unlike
from oncestream.logs import entries_of
from oncestream.meaning import all_late, cut, lots_of, meaning
from oncestream.outside import committed, last_of
from oncestream.queries import sources_of
from oncestream.rewritings import unplanned


def whole_input(world):
    """The input that the logs hold."""
    logs, fed = world["logs"], {}
    for name in sources_of(world["plan"]):
        parts = sorted([pair for pair in logs if pair[0] == name])
        fed[name] = tuple([entries_of(logs[pair]) for pair in parts])
    return fed


def _told_input(world):
    """The input up to the places of the last number that is told outside."""
    last = last_of(world["outside"])
    places = {pair: 0 for pair in world["logs"]}
    for n, pairs in world["cuts"]:
        if n == last:
            places = dict(pairs)
    return cut(whole_input(world), places)


def _out_bag(world):
    """The bag of what the query has given out."""
    return committed(world["outside"], "out")


def lots_told(world, row):
    """The lots of a row that is told outside, [] if it is not."""
    return lots_of(unplanned(world["plan"]), _told_input(world), row) if row in _out_bag(world) else []


def still_due(world):
    """The bag of what all the input would tell already, and is not told."""
    return taken(meaning(unplanned(world["plan"]), whole_input(world)), _out_bag(world))


def fault_outside(world):
    """None if just what is due is told outside, else the first fault."""
    plan, fed = world["plan"], _told_input(world)
    late = all_late(fed)
    for name in sources_of(plan):
        rows = [fed[name][part][place][1:] for source, part, place in late if source == name]
        if committed(world["outside"], name) != bag_of(rows):
            return ("late", name)
    found = unlike(_out_bag(world), meaning(unplanned(plan), fed))
    return None if found is None else ("out",) + found
