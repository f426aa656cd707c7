"""What is kept of all tasks under one number, and how it is dealt to other tasks, by groups of keys and by parts."""

from oncestream.finishing import finish_dealt
from oncestream.graphs import GROUPS, graph, owner, tasks_at, tasks_of
from oncestream.joins import join_dealt, join_of
from oncestream.operators import operator_of
from oncestream.queries import all_columns, sources_of, step_of
from oncestream.sinks import fresh_sink
from oncestream.sources import back_source, dealt, dealt_anew, mark_of
from oncestream.windows import sum_dealt


def groups_of(i, workers):
    """The ascending groups that the task with this number does, of so many."""
    return tuple([g for g in range(GROUPS) if owner(g, workers) == i])


def _with_marks(keeps):
    """Pairs of what is kept of sources and the marks that they tell then."""
    return [(kept, mark_of(back_source(kept))) for kept in keeps]


def _dealt_states(query, name, states, many):
    """The states that so many tasks of a step get of all that its tasks kept."""
    step, lots = ("out",) if name == "out" else step_of(query, name), [groups_of(i, many) for i in range(many)]
    if step[0] in ("sum", "gather"):
        return sum_dealt(step, states, lots)
    if step[0] == "finish":
        return finish_dealt(states, lots, len(step[2]))
    if step[0] == "join":
        columns = all_columns(query)
        return join_dealt(join_of(columns[step[1]], columns[step[2]], step[3], step[4], step[5]), states, lots)
    return [()] * many


def moved(query, old, new, kept):
    """What the tasks of new workers begin with, by what those of the old ones kept."""
    elder, graph_now, found = graph(query, dict(old)), graph(query, dict(new)), {}
    for name, _ in query:
        pairs, tasks = [kept[task] for task in tasks_at(elder, name)], tasks_at(graph_now, name)
        states = [state for state, _ in pairs]
        if name in sources_of(query):
            begins = _with_marks(dealt_anew(states, len(tasks)))
        else:
            begins = [(state, pairs[0][1]) for state in _dealt_states(query, name, states, len(tasks))]
        for task, pair in zip(tasks, begins):
            found[task] = pair
    return found


def fresh_kept(query, workers, parts):
    """What all tasks begin with at the number 0, by how many parts each source has."""
    now, found = graph(query, dict(workers)), {}
    for task in tasks_of(now):
        name, number = task
        if name in sources_of(query):
            numbers = dealt(parts[name], dict(workers)[name])[number]
            found[task] = _with_marks([tuple([(part, 0, 0) for part in numbers])])[0]
        else:
            fresh = operator_of(now, task)[0]
            found[task] = (fresh(), 0)
    return found


def begun_of(query, kept):
    """The states and marks with which a net begins, by what was kept."""
    found = {}
    for task in kept:
        state, mark = kept[task]
        if task[0] in sources_of(query):
            state = back_source(state)
        elif task[0] == "out":
            state = fresh_sink()
        found[task] = (state, mark)
    return found
