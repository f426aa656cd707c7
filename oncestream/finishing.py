"""The finish of a sum in two steps: what several gathers give for one window is added up."""

from oncestream.bags import row_rank
from oncestream.graphs import group, shared_out
from oncestream.tables import looked_up, with_thing
from oncestream.values import ranks
from oncestream.windows import fresh, marked, put


def finish_fresh():
    """The state into which nothing has come."""
    return ()


def finish_put(state, row, keys):
    """The state behind one more row of a gather with so many keys."""
    at, sums = row[2][:keys + 2], row[2][keys + 2:]
    there = looked_up(state, at, ranks)
    if there is not None:
        sums = tuple([one + other for one, other in zip(there, sums)])
    return with_thing(state, at, sums, ranks)


def finish_marked(state, mark):
    """The state behind a mark, and the rows of all windows that end there or ahead of it."""
    rows = [(at[-1] - 1, 1, at + sums) for at, sums in state if at[-1] <= mark]
    left = tuple([pair for pair in state if pair[0][-1] > mark])
    return left, tuple(sorted(rows, key=row_rank))


def finish_split(state, groups, keys):
    """What the state has of the keys of some groups."""
    return tuple([pair for pair in state if group(pair[0][:keys]) in groups])


def finish_joined(states):
    """All that some states have, of which no two have the same."""
    return tuple(sorted([pair for state in states for pair in state], key=lambda pair: ranks(pair[0])))


def _gathered(columns, step, rows, mark):
    """The rows that a gather gives up to a mark, of all rows that come to it."""
    state = fresh()
    for row in rows:
        state = put(columns, step, state, row)[0]
    return marked(step, state, mark)[1]


def finish_rows(lots, keys, window, sums, columns, mark):
    """The rows that a finish gives up to a mark if each lot of rows has come to a gather of its own."""
    step, state = ("gather", "rows", keys, window, sums), finish_fresh()
    for rows in lots:
        for row in _gathered(columns, step, rows, mark):
            state = finish_put(state, row, len(keys))
    return list(finish_marked(state, mark)[1])


def finish_operator(keys):
    """What a task of a finish with so many keys does: the functions fresh, put and marked."""
    return (finish_fresh, lambda state, i, row: (finish_put(state, row, keys), ()), finish_marked)


def finish_dealt(states, keys, many):
    """What each of so many tasks gets of all states of the tasks of a finish with so many keys."""
    return shared_out(finish_joined(states), lambda pair: pair[0][:keys], many)
