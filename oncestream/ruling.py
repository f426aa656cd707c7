"""What control does in a world: its records, its letters, and the net that is made anew in a new epoch."""

from oncestream.control import again, back, begin, hear, renewed, source_tasks, written
from oncestream.graphs import graph
from oncestream.groups import begun_of, fresh_kept, moved
from oncestream.nets import net_of
from oncestream.queries import sources_of
from oncestream.shelves import cleared, states_on


def _ruled(world, triple):
    """The world behind what control has done: its records are on its disk, its letters in the air."""
    control, records, letters = triple
    disk = written(world["disk"], records)
    return {**world, "control": control, "disk": disk, "air": world["air"] + letters}


def begin_number(world):
    """The world behind the wish to begin with the next number."""
    return _ruled(world, begin(world["control"]))


def hear_letter(world, letter):
    """The world behind a letter to control, taken out of the air."""
    return _ruled(world, hear(world["control"], letter))


def renew(world, workers):
    """The world in which a new epoch has begun, with these workers."""
    return _ruled(world, renewed(world["control"], workers))


def come_back(world):
    """The world in which control has fallen and has come back from its disk."""
    return _ruled(world, back(world["plan"], world["workers"], world["disk"]))


def control_again(world):
    """The letters that control sends once more."""
    return again(world["control"])


def parts_of_sources(plan, logs):
    """The dict from each source to how many parts it has."""
    return {name: len([pair for pair in logs if pair[0] == name]) for name in sources_of(plan)}


def _kept_last(world):
    """What the shelf has of the last complete number, by the tasks that kept it."""
    control = world["control"]
    return states_on(world["shelf"], control["last_epoch"], control["last"])


def with_new_net(world):
    """The world whose net is made anew of what was kept under the last complete number."""
    plan, control = world["plan"], world["control"]
    workers = control["workers"]
    if control["last"] == 0:
        kept = fresh_kept(plan, workers, parts_of_sources(plan, world["logs"]))
    else:
        kept = moved(plan, control["last_workers"], workers, _kept_last(world))
    net = net_of(graph(plan, dict(workers)), world["credits"], begun_of(plan, kept))
    return {**world, "workers": workers, "net": net}


def _last_places(world):
    """How far the sources had read when they kept the last complete number, in ascending pairs."""
    tasks, kept = source_tasks(world["plan"], world["control"]["last_workers"]), _kept_last(world)
    return tuple(sorted([((task[0], part), place) for task in tasks for part, place, _ in kept[task][0]]))


def with_complete(world):
    """The world that knows the places of a number that has become complete, and has cleared what is elder."""
    control, cuts = world["control"], world["cuts"]
    if control["last"] == len(cuts):
        return world
    shelf = cleared(world["shelf"], control["last_epoch"], control["last"])
    return {**world, "shelf": shelf, "cuts": cuts + ((control["last"], _last_places(world)),)}
