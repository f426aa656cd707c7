"""Operators: what the tasks of each step do with rows and marks, as triples of functions (fresh, put, marked)."""

from oncestream.expressions import holds, worth
from oncestream.finishing import finish_operator
from oncestream.graphs import inputs_of
from oncestream.joins import join_of, join_operator
from oncestream.queries import all_columns, step_of
from oncestream.windows import sum_operator


def _no_state():
    """The state of a task that keeps nothing."""
    return ()


def _nothing(state, mark):
    """What a task that keeps nothing does at a mark."""
    return state, ()


def _passing(rows_of):
    """The operator that keeps nothing, and gives for each row what rows_of tells."""
    return (_no_state, lambda state, i, row: (state, rows_of(row)), _nothing)


def _kept(columns, e, row):
    """The row, if the expression holds of it."""
    return (row,) if holds(columns, e, row[2]) else ()


def _made(columns, told, row):
    """The row that is made of a row of these columns."""
    return ((row[0], row[1], tuple([worth(columns, e, row[2]) for _, e in told])),)


def operator_of(graph, task):
    """The operator of a task that is none of a source."""
    name = task[0]
    step = ("out",) if name == "out" else step_of(graph[0], name)
    if step[0] in ("both", "out"):
        return _passing(lambda row: (row,))
    columns = all_columns(graph[0])
    ahead = columns[step[1]]
    if step[0] == "keep":
        return _passing(lambda row: _kept(ahead, step[2], row))
    if step[0] == "make":
        return _passing(lambda row: _made(ahead, step[2], row))
    if step[0] == "finish":
        return finish_operator(len(step[2]))
    if step[0] == "join":
        sides = tuple([channel[1] for channel in inputs_of(graph, task)])
        return join_operator(join_of(ahead, columns[step[2]], step[3], step[4], step[5]), sides)
    return sum_operator(ahead, step)
