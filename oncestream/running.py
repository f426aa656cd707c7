"""What the workers of a world do: logs are written and read, things are moved, and states are put on the shelf."""

from oncestream.logs import entries_of, torn, written
from oncestream.nets import can_move, moved, read_in, stopped
from oncestream.queries import sources_of
from oncestream.shelves import put_down, tasks_on
from oncestream.sources import again


def _with_log(world, part, log):
    """The world in which another log stands for a pair (source, number of the part)."""
    return {**world, "logs": {**world["logs"], part: log}}


def fed(world, source, part, entry):
    """The world behind an entry that is written to a log."""
    return _with_log(world, (source, part), written(world["logs"][(source, part)], [entry]))


def fed_torn(world, source, part, entry, keep):
    """The world behind an entry of which only the first signs came to stand in a log, so many."""
    return _with_log(world, (source, part), torn(world["logs"][(source, part)], [entry], keep))


def source_states(world):
    """The pairs of all source tasks, in order, and their states."""
    names, tasks = sources_of(world["plan"]), world["net"]["tasks"]
    return [(task, tasks[task]["state"]) for task in tasks if task[0] in names]


def unread(world):
    """The triples (task, part, entry) of all entries that a source task can read next."""
    tasks = world["net"]["tasks"]
    free = [(task, state) for task, state in source_states(world) if len(tasks[task]["outbox"]) == 0]
    found = []
    for task, state in free:
        for part, place, _ in state[0]:
            entries = entries_of(world["logs"][(task[0], part)])
            if place < len(entries):
                found.append((task, part, entries[place]))
    return found


def read_one(world, k):
    """The world behind one of the entries that can be read."""
    found = unread(world)
    if len(found) == 0:
        return world
    task, part, entry = found[k % len(found)]
    return {**world, "net": read_in(world["net"], task, part, entry)}


def _kept_of(world, net, kept, letter):
    """The world with another net, of which this was kept and this letter goes to the outside; each may be None."""
    air, shelf = (), world["shelf"]
    if kept is not None:
        n, task, state, mark = kept
        epoch = world["control"]["epoch"]
        shelf, air = put_down(shelf, epoch, n, task, state, mark), (("kept", epoch, n, task),)
    if letter is not None:
        air = air + (letter,)
    return {**world, "net": net, "shelf": shelf, "air": world["air"] + air}


def move_one(world, k):
    """The world behind one of the moves that its net can make."""
    moves = can_move(world["net"])
    if len(moves) == 0:
        return world
    net, kept, letter = moved(world["net"], moves[k % len(moves)], world["control"]["epoch"])
    return _kept_of(world, net, kept, letter)


def _is_asked(world, letter):
    """Whether a source task still has to stop by this letter of control."""
    _, epoch, n, task = letter
    control = world["control"]
    if epoch != control["epoch"] or n <= control["last"]:
        return False
    return task not in tasks_on(world["shelf"], epoch, n)


def goes_back(world, letter):
    """Whether a letter of control to a source task would only go back to the end of the air."""
    return _is_asked(world, letter) and len(world["net"]["tasks"][letter[3]]["outbox"]) > 0


def hear_begin(world, letter):
    """The world behind a letter of control, taken out of the air, to a source task."""
    if not _is_asked(world, letter):
        return world
    if goes_back(world, letter):
        return {**world, "air": world["air"] + (letter,)}
    net, kept, own = stopped(world["net"], letter[3], letter[1], letter[2])
    return _kept_of(world, net, kept, own)


def letters_again(world):
    """What tasks, sources and sinks send once more when they are asked again."""
    control, tasks, letters = world["control"], world["net"]["tasks"], []
    if control["phase"] == "barrier":
        n = control["last"] + 1
        there = tasks_on(world["shelf"], control["epoch"], n)
        letters.extend([("kept", control["epoch"], n, task) for task in tasks if task in there])
    holders = sources_of(world["plan"]) + ("out",)
    for task in tasks:
        if task[0] in holders:
            letters.extend(again(tasks[task]["state"]))
    return tuple(letters)
