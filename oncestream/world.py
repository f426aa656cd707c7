"""Worlds: input, workers, control and the outside, with letters that may be lost, and all that can happen to them.

Nothing in a world is ever changed: what happens makes a new one, which shares with the elder one what stayed as it was.
"""

from oncestream.acts import happen, run_calmly
from oncestream.control import first, written
from oncestream.errors import BadScript
from oncestream.events import is_event_of
from oncestream.graphs import graph
from oncestream.groups import begun_of, fresh_by
from oncestream.nets import net_by
from oncestream.outside import committed, fresh_outside
from oncestream.queries import sources_of
from oncestream.running import Run, places_of_net
from oncestream.settled import Settled
from oncestream.wiring import Wiring


def new_world(plan, parts, workers, room):
    """The world at the beginning, by how many parts each source has, and how many things a channel holds."""
    control, records, letters = first(plan, workers)
    wiring = Wiring(graph(plan, dict(workers)))
    net = net_by(wiring, room, begun_of(plan, fresh_by(wiring, parts)))
    return {
        "plan": plan, "logs": {(name, part): "" for name in sources_of(plan) for part in range(parts[name])},
        "credits": room, "workers": workers, "net": net, "shelf": "", "disk": written("", records),
        "control": control, "outside": fresh_outside(), "air": letters, "cuts": (),
    }


def is_event(world, value):
    """Whether anything is an event of this world."""
    return is_event_of(world["plan"], world["logs"], value)


def after(world, event):
    """The world behind an event; raises BadScript if it is none."""
    if not is_event(world, event):
        raise BadScript(0)
    run = Run(world)
    happen(run, event)
    return run.world()


def played(world, script):
    """The world behind all events of a list; raises BadScript if one is none."""
    for number, event in enumerate(script):
        if not is_event(world, event):
            raise BadScript(number)
    run = Run(world)
    for event in script:
        happen(run, event)
    return run.world()


def input_of(world):
    """The input that the logs hold."""
    return Settled(world["plan"]).whole_input(world)


def places_read(world):
    """How far the source tasks have read, in ascending pairs."""
    names, fields = sources_of(world["plan"]), world["net"]["tasks"]
    return places_of_net([task for task in fields if task[0] in names], fields)


def told_outside(world):
    """The bag of what the query has given out."""
    return committed(world["outside"], "out")


def late_outside(world, source):
    """The bag of the late rows of a source that are told."""
    return committed(world["outside"], source)


def calm(world):
    """The world behind a calm run to the end of all input, and how many events that takes."""
    run = Run(world)
    many = run_calmly(run)
    return run.world(), many


def why(world, row):
    """The lots of a row that is told outside, [] if it is not."""
    return Settled(world["plan"]).lots(world, row)


def unsettled(world):
    """The bag of what all the input would tell already, and is not told."""
    return Settled(world["plan"]).due(world)


def judge_world(world):
    """None if just what is due is told outside, else the first fault."""
    return Settled(world["plan"]).fault(world)
