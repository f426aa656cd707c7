"""What is kept of all tasks under one number, and how it is dealt to other tasks, by groups of keys and by parts."""

from oncestream.finishing import finish_dealt
from oncestream.graphs import GROUPS, graph, owner
from oncestream.joins import join_dealt, join_of
from oncestream.queries import sources_of
from oncestream.sinks import fresh_sink
from oncestream.sources import back_source, dealt, dealt_anew, mark_of
from oncestream.windows import sum_dealt
from oncestream.wiring import Wiring


def groups_of(i, workers):
    """The ascending groups that the task with this number does, of so many."""
    return tuple([g for g in range(GROUPS) if owner(g, workers) == i])


def _with_marks(keeps):
    """Pairs of what is kept of sources and the marks that they tell then."""
    return [(kept, mark_of(back_source(kept))) for kept in keeps]


def _dealt_states(wiring, name, states, many):
    """The states that so many tasks of a step get of all that its tasks kept."""
    step = wiring.steps[name]
    if step[0] in ("sum", "gather"):
        return sum_dealt(step, states, many)
    if step[0] == "finish":
        return finish_dealt(states, len(step[2]), many)
    if step[0] == "join":
        _, left, right, keys, back, ahead = step
        join = join_of(wiring.columns_of(left), wiring.columns_of(right), keys, back, ahead)
        return join_dealt(join, states, many)
    return [()] * many


def moved_by(wiring, old, kept):
    """What moved returns, by a wiring of the graph with the new workers."""
    elder, found = dict(old), {}
    for name in wiring.steps:
        pairs, tasks = [kept[(name, number)] for number in range(elder[name])], wiring.tasks_at(name)
        states = [state for state, _ in pairs]
        if name in wiring.sources:
            begins = _with_marks(dealt_anew(states, len(tasks)))
        elif name == "out":
            begins = [((), pairs[0][1])] * len(tasks)
        else:
            begins = [(state, pairs[0][1]) for state in _dealt_states(wiring, name, states, len(tasks))]
        for task, pair in zip(tasks, begins):
            found[task] = pair
    return found


def moved(query, old, new, kept):
    """What the tasks of new workers begin with, by what those of the old ones kept."""
    return moved_by(Wiring(graph(query, dict(new))), old, kept)


def fresh_by(wiring, parts):
    """What fresh_kept returns, by a wiring of the graph."""
    found = {}
    for name in wiring.steps:
        tasks = wiring.tasks_at(name)
        if name in wiring.sources:
            lots = dealt(parts[name], len(tasks))
            begins = _with_marks([tuple([(part, 0, 0) for part in numbers]) for numbers in lots])
        elif name == "out":
            begins = [((), 0)] * len(tasks)
        else:
            fresh = wiring.operator(name)[0]
            begins = [(fresh(), 0)] * len(tasks)
        for task, pair in zip(tasks, begins):
            found[task] = pair
    return found


def fresh_kept(query, workers, parts):
    """What all tasks begin with at the number 0, by how many parts each source has."""
    return fresh_by(Wiring(graph(query, dict(workers))), parts)


def begun_of(query, kept):
    """The states and marks with which a net begins, by what was kept."""
    sources, found = sources_of(query), {}
    for task in kept:
        state, mark = kept[task]
        if task[0] in sources:
            state = back_source(state)
        elif task[0] == "out":
            state = fresh_sink()
        found[task] = (state, mark)
    return found
