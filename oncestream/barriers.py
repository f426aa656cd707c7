"""Barriers: on which inputs one has come, what is held till it has come on all, and a task that is run alone."""

from oncestream.errors import BadBarrier
from oncestream.marks import new_marks, put_mark, risen


def is_held(waiting, channel):
    """Whether nothing may be taken from a channel."""
    return waiting is not None and channel in waiting[1]


def come(waiting, channels, channel, n):
    """What is waited for when a barrier has come on one more channel, and whether it has come on all of them."""
    if is_held(waiting, channel) or (waiting is not None and waiting[0] != n):
        raise BadBarrier(n)
    here = (channel,) if waiting is None else tuple(sorted(waiting[1] + (channel,)))
    return (None, True) if len(here) == len(channels) else ((n, here), False)


def free_channels(waiting, channels):
    """Those of the channels from which something may be taken."""
    return [channel for channel in channels if not is_held(waiting, channel)]


def numbers_left(waiting, channels):
    """The channels on which the barrier that is waited for has not come."""
    return [] if waiting is None else free_channels(waiting, channels)


def _place_of(things, n):
    """The place of the first barrier with this number, behind the last thing if there is none."""
    places = [place for place, thing in enumerate(things) if thing == ("barrier", n)]
    return places[0] if len(places) > 0 else len(things)


def before(things, n):
    """The things ahead of the first barrier with this number, all if there is none."""
    return things[:_place_of(things, n)]


def behind(things, n):
    """The things behind the first barrier with this number, none if there is none."""
    return things[_place_of(things, n) + 1:]


def numbers_in(things):
    """The numbers of all barriers among the things."""
    return tuple([thing[1] for thing in things if thing[0] == "barrier"])


def judge_channel(things, mark):
    """None if the things may run through a channel behind this mark, else the first fault."""
    number = 0
    for place, (word, told) in enumerate(things):
        if word == "barrier":
            if told <= number:
                return ("barrier", place)
            number = told
        else:
            if (told[0] if word == "row" else told) < mark:
                return (word, place)
            mark = told if word == "mark" else mark
    return None


# A task that is run alone is a dict: its "state", its "marks" and the "mark" that it told last, what it is "waiting"
# for, how many things of each input are "taken", and what it has "sent" and "kept". Its channels are (0,), (1,), ..


def _new_run(state, many):
    """A task at the beginning, with so many inputs."""
    marks = new_marks([(number,) for number in range(many)])
    return {"state": state, "marks": marks, "mark": 0, "waiting": None, "taken": [0] * many, "sent": [], "kept": []}


def _give(run, after):
    """The state and the rows that an operator has returned come to the task."""
    state, rows = after
    run["state"] = state
    run["sent"].extend([("row", row) for row in rows])


def _take_mark(marked, run, number, m):
    run["marks"] = put_mark(run["marks"], (number,), m)
    mark = risen(run["marks"], run["mark"])
    if mark is not None:
        _give(run, marked(run["state"], mark))
        run["sent"].append(("mark", mark))
        run["mark"] = mark


def _take_barrier(run, number, n):
    run["waiting"], is_all = come(run["waiting"], list(run["marks"]), (number,), n)
    if is_all:
        run["kept"].append((n, run["state"]))
        run["sent"].append(("barrier", n))


def _take(operator, run, number, thing):
    """The task takes a thing that has come on the input with this number."""
    _, put, marked = operator
    run["taken"][number] += 1
    if thing[0] == "row":
        _give(run, put(run["state"], number, thing[1]))
    elif thing[0] == "mark":
        _take_mark(marked, run, number, thing[1])
    else:
        _take_barrier(run, number, thing[1])


def _free_inputs(run, inputs):
    """The numbers of the inputs from which something can be taken."""
    left = [number for number, things in enumerate(inputs) if run["taken"][number] < len(things)]
    return [number for number in left if not is_held(run["waiting"], (number,))]


def driven(operator, inputs, picks):
    """What a task sends, what it keeps, and its state at the end, if the picks tell from which input it takes."""
    fresh = operator[0]
    run = _new_run(fresh(), len(inputs))
    for pick in picks:
        numbers = _free_inputs(run, inputs)
        if len(numbers) == 0:
            break
        number = numbers[pick % len(numbers)]
        _take(operator, run, number, inputs[number][run["taken"][number]])
    return tuple(run["sent"]), tuple(run["kept"]), run["state"]


def finished(operator, inputs):
    """As driven, always from the first input from which something can be taken, till nothing can be."""
    return driven(operator, inputs, (0,) * sum([len(things) for things in inputs]))
