"""What each event does to a world that is run, and calm runs.

What an event does in the net is done at once: behind an event that is torn the net is made anew anyway. All else is
told as a deed, which is done then, or torn. A deed is a dict; none of its fields need be there: "heard", the place of
the letter that is taken out of the air; "kept", what a task keeps, (n, task, state, mark); "letters", which leave;
"outside" and "control", as they are then; and beside the control the "records" that it writes. To feed is no deed.
"""

from oncestream.outside import heard
from oncestream.queries import sources_of
from oncestream.running import ruled
from oncestream.sources import again


def _keeping(kept, letter):
    """The deed of a task that keeps something and perhaps sends a letter to the outside, which else is None."""
    return {"kept": kept, "letters": () if letter is None else (letter,)}


def _reading(run, task, part, place):
    """A source task reads an entry, the one of a part at this place."""
    run.net().read(task, part, run.log((task[0], part)).entry(place))
    return {}


def _read(run, event):
    found = run.unread()
    if len(found) == 0:
        return {}
    task, part, place = found[event[1] % len(found)]
    return _reading(run, task, part, place)


def _moving(run, move):
    """A move is made."""
    kept, letter = run.net().move(move, run.fields["control"]["epoch"])
    return {} if kept is None else _keeping(kept, letter)


def _move(run, event):
    move = run.net().picked(event[1])
    return {} if move is None else _moving(run, move)


def _begin(run, event):
    return ruled(run.ruler.begin(run.fields["control"]))


def _again(run, event):
    control, tasks, told = run.fields["control"], run.net().tasks(), []
    if control["phase"] == "barrier":
        epoch, n = control["epoch"], control["last"] + 1
        told.extend([("kept", epoch, n, task) for task in tasks if run.shelf().has(epoch, n, task)])
    names = sources_of(run.fields["plan"]) + ("out",)
    for task in tasks:
        if task[0] in names:
            told.extend(again(tasks[task]["state"]))
    return {"letters": run.ruler.again(control) + tuple(told)}


def _picked(run, k):
    """The place of the letter that a number tells, None if there is no letter."""
    many = len(run.air)
    return None if many == 0 else k % many


def _lose(run, event):
    at = _picked(run, event[1])
    return {} if at is None else {"heard": at}


def _double(run, event):
    at = _picked(run, event[1])
    return {} if at is None else {"letters": (run.air[at],)}


def _hear(run, event):
    at = _picked(run, event[1])
    return {} if at is None else _hearing(run, at)


def _stopping(run, letter):
    """A source task hears a letter of control."""
    if not run.is_asked(letter):
        return {}
    if run.goes_back(letter):
        return {"letters": (letter,)}
    _, epoch, n, task = letter
    kept, own = run.net().stop(task, epoch, n)
    return _keeping(kept, own)


def _hearing(run, at):
    """The letter at this place in the air is heard by whom it is for."""
    letter = run.air[at]
    if letter[0] == "begin":
        deed = _stopping(run, letter)
    elif letter[0] in ("hold", "commit", "drop"):
        outside, answers = heard(run.fields["outside"], letter)
        deed = {"outside": outside, "letters": answers}
    else:
        deed = ruled(run.ruler.hear(run.fields["control"], letter))
    return {**deed, "heard": at}


def _fall(run, event):
    control = run.fields["control"]
    return ruled(run.ruler.renewed(control, control["workers"]))


def _change(run, event):
    return ruled(run.ruler.renewed(run.fields["control"], event[1]))


def _stop(run, event):
    return ruled(run.ruler.returned(run.fields["control"]))


ACTIONS = {
    "read": _read, "move": _move, "begin": _begin, "again": _again, "hear": _hear, "lose": _lose, "double": _double,
    "fall": _fall, "workers": _change, "stop": _stop,
}


def happen(run, event):
    """Lets an event happen to a world that is run."""
    inner, keep = (event[1], event[2]) if event[0] == "torn" else (event, None)
    if inner[0] == "feed":
        run.feed(inner[1:3], inner[3], keep)
        return
    action = ACTIONS[inner[0]]
    deed = action(run, inner)
    if keep is None:
        run.do(deed)
    else:
        run.tear(deed, keep)


# A calm run: nothing is lost any more.


def _next_calm(run):
    """The deed that comes next in a calm run, None if all is settled."""
    for place, letter in enumerate(run.air):
        if letter[0] != "begin" or not run.goes_back(letter):
            return _hearing(run, place)
    move = run.net().first()
    if move is not None:
        return _moving(run, move)
    found = run.unread()
    if len(found) > 0:
        task, part, place = found[0]
        return _reading(run, task, part, place)
    if run.fields["control"]["phase"] != "run":
        return _again(run, ("again",))
    cuts = run.fields["cuts"]
    return _begin(run, ("begin",)) if len(cuts) == 0 or run.places() != cuts[-1][1] else None


def run_calmly(run):
    """Runs a world to the end of all input, and returns how many events that takes."""
    many, deed = 0, _next_calm(run)
    while deed is not None:
        run.do(deed)
        many, deed = many + 1, _next_calm(run)
    return many
