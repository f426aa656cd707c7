"""Worlds: input, workers, control and the outside, with letters that may be lost, and all that can happen to them.

Nothing in a world is ever changed: what happens makes a new one, which shares with the elder one what stayed as it was.
"""

from oncestream.control import first, written
from oncestream.errors import BadScript
from oncestream.events import is_event_of
from oncestream.graphs import graph
from oncestream.groups import begun_of, fresh_kept
from oncestream.nets import can_move, net_of
from oncestream.outside import committed, fresh_outside, heard
from oncestream.queries import sources_of
from oncestream.ruling import begin_number, come_back, control_again, hear_letter, renew, with_complete, with_new_net
from oncestream.running import fed, fed_torn, goes_back, hear_begin, letters_again, move_one, read_one
from oncestream.running import source_states, unread
from oncestream.settled import fault_outside, lots_told, still_due, whole_input
from oncestream.shelves import mended


def new_world(plan, parts, workers, room):
    """The world at the beginning, by how many parts each source has, and how many things a channel holds."""
    control, records, letters = first(plan, workers)
    net = net_of(graph(plan, dict(workers)), room, begun_of(plan, fresh_kept(plan, workers, parts)))
    return {
        "plan": plan, "logs": {(name, part): "" for name in sources_of(plan) for part in range(parts[name])},
        "credits": room, "workers": workers, "net": net, "shelf": "", "disk": written("", records),
        "control": control, "outside": fresh_outside(), "air": letters, "cuts": (),
    }


def is_event(world, value):
    """Whether anything is an event of this world."""
    return is_event_of(world["plan"], world["logs"], value)


# What is done for each word of an event, torn ones apart; a net is made anew only behind that, where it must be.


def _feed(world, event):
    return fed(world, event[1], event[2], event[3])


def _read(world, event):
    return read_one(world, event[1])


def _move(world, event):
    return move_one(world, event[1])


def _begin(world, event):
    return begin_number(world)


def _again(world, event):
    return {**world, "air": world["air"] + control_again(world) + letters_again(world)}


def _picked(world, k):
    """The place of the letter that a number tells, None if there is no letter."""
    many = len(world["air"])
    return None if many == 0 else k % many


def _lose(world, event):
    at, air = _picked(world, event[1]), world["air"]
    return world if at is None else {**world, "air": air[:at] + air[at + 1:]}


def _double(world, event):
    at, air = _picked(world, event[1]), world["air"]
    return world if at is None else {**world, "air": air + (air[at],)}


def _hear(world, event):
    at = _picked(world, event[1])
    if at is None:
        return world
    letter, left = world["air"][at], _lose(world, event)
    if letter[0] == "begin":
        return hear_begin(left, letter)
    if letter[0] not in ("hold", "commit", "drop"):
        return hear_letter(left, letter)
    outside, answers = heard(left["outside"], letter)
    return {**left, "outside": outside, "air": left["air"] + answers}


def _fall(world, event):
    return renew(world, world["control"]["workers"])


def _change(world, event):
    return renew(world, event[1])


def _stop(world, event):
    return come_back(world)


ACTIONS = {
    "feed": _feed, "read": _read, "move": _move, "begin": _begin, "again": _again, "hear": _hear, "lose": _lose,
    "double": _double, "fall": _fall, "workers": _change, "stop": _stop,
}


def _acted(world, event):
    action = ACTIONS[event[0]]
    return action(world, event)


def _torn(world, event, keep):
    """The world behind an event of whose writing only the first signs came to stand, so many."""
    if event[0] == "feed":
        return fed_torn(world, event[1], event[2], event[3], keep)
    # No event writes both to the shelf and to the disk: so each gets the first signs of its own.
    done, shelf, disk = _acted(world, event), mended(world["shelf"]), written(world["disk"], [])
    left = _lose(world, event) if event[0] == "hear" else world
    shelf, disk = mended(done["shelf"])[:len(shelf) + keep], done["disk"][:len(disk) + keep]
    return come_back({**left, "shelf": shelf, "disk": disk})


def _behind(world, event):
    """The world behind an event that is one."""
    done = _torn(world, event[1], event[2]) if event[0] == "torn" else _acted(world, event)
    done = with_complete(done)
    return done if done["control"]["epoch"] == world["control"]["epoch"] else with_new_net(done)


def after(world, event):
    """The world behind an event; raises BadScript if it is none."""
    if not is_event(world, event):
        raise BadScript(0)
    return _behind(world, event)


def played(world, script):
    """The world behind all events of a list; raises BadScript if one is none."""
    for number, event in enumerate(script):
        if not is_event(world, event):
            raise BadScript(number)
    for event in script:
        world = _behind(world, event)
    return world


def input_of(world):
    """The input that the logs hold."""
    return whole_input(world)


def places_read(world):
    """How far the source tasks have read, in ascending pairs."""
    read = [((task[0], part), place) for task, state in source_states(world) for part, place, _ in state[0]]
    return tuple(sorted(read))


def told_outside(world):
    """The bag of what the query has given out."""
    return committed(world["outside"], "out")


def late_outside(world, source):
    """The bag of the late rows of a source that are told."""
    return committed(world["outside"], source)


def _next_calm(world):
    """The event that comes next when nothing is lost any more, None if all is settled."""
    for place, letter in enumerate(world["air"]):
        if letter[0] != "begin" or not goes_back(world, letter):
            return ("hear", place)
    if len(can_move(world["net"])) > 0:
        return ("move", 0)
    if len(unread(world)) > 0:
        return ("read", 0)
    if world["control"]["phase"] != "run":
        return ("again",)
    cuts = world["cuts"]
    return ("begin",) if len(cuts) == 0 or places_read(world) != cuts[-1][1] else None


def calm(world):
    """The world behind a calm run to the end of all input, and how many events that takes."""
    many, event = 0, _next_calm(world)
    while event is not None:
        world, many = _behind(world, event), many + 1
        event = _next_calm(world)
    return world, many


def why(world, row):
    """The lots of a row that is told outside, [] if it is not."""
    return lots_told(world, row)


def unsettled(world):
    """The bag of what all the input would tell already, and is not told."""
    return still_due(world)


def judge_world(world):
    """None if just what is due is told outside, else the first fault."""
    return fault_outside(world)
