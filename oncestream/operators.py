"""Operators: what the tasks of each step do with rows and marks, as triples of functions (fresh, put, marked)."""

from oncestream.expressions import holding, worth_by
from oncestream.finishing import finish_operator
from oncestream.graphs import inputs_of
from oncestream.joins import join_of, join_operator
from oncestream.queries import all_columns, made_of, step_of
from oncestream.windows import sum_operator


def _no_state():
    """The state of a task that keeps nothing."""
    return ()


def _nothing(state, mark):
    """What a task that keeps nothing does at a mark."""
    return state, ()


def _passing(rows_of):
    """The operator that keeps nothing, and gives for each row what rows_of tells."""
    return (_no_state, lambda state, i, row: (state, rows_of(row)), _nothing)


def _kept(is_kept, row):
    """The row, if it is kept."""
    return (row,) if is_kept(row[2]) else ()


def _made(worths, row):
    """The row with these worths for values."""
    return ((row[0], row[1], tuple([worth(row[2]) for worth in worths])),)


def step_operator(step, columns, sides):
    """The operator of all tasks of a step, by the columns of what it is made of and the sides of its inputs."""
    if step[0] == "both":
        return _passing(lambda row: (row,))
    if step[0] == "keep":
        is_kept = holding(columns[0], step[2])
        return _passing(lambda row: _kept(is_kept, row))
    if step[0] == "make":
        worths = [worth_by(columns[0], e) for _, e in step[2]]
        return _passing(lambda row: _made(worths, row))
    if step[0] == "finish":
        return finish_operator(len(step[2]))
    if step[0] == "join":
        return join_operator(join_of(columns[0], columns[1], step[3], step[4], step[5]), sides)
    return sum_operator(columns[0], step)


def operator_of(graph, task):
    """The operator of a task that is none of a source."""
    name = task[0]
    if name == "out":
        return _passing(lambda row: (row,))
    step, columns = step_of(graph[0], name), all_columns(graph[0])
    sides = [channel[1] for channel in inputs_of(graph, task)]
    return step_operator(step, [columns[of] for of in made_of(step)], sides)
