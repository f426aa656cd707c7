"""Joins by time: which rows of two tables meet, and the state in which they wait for one another."""

from oncestream.bags import bag_of, row_rank
from oncestream.errors import BadInput
from oncestream.graphs import group, shared_out
from oncestream.marks import END, is_mark
from oncestream.tables import is_table, with_more
from oncestream.values import is_bare_row, is_from, ranks


def join_of(left, right, keys, back, ahead):
    """The join of two tables with these columns."""
    ones, others = [name for name, _ in left], [name for name, _ in right]
    rest = tuple([place for place, name in enumerate(others) if name not in keys])
    return (tuple([ones.index(key) for key in keys]), tuple([others.index(key) for key in keys]), rest, back, ahead)


def joined_columns(left, right, keys):
    """The columns of what a join gives."""
    return tuple(left) + tuple([column for column in right if column[0] not in keys])


def key_of(join, side, values):
    """The key of a row of this side."""
    return tuple([values[place] for place in join[side]])


def do_meet(join, one, other):
    """Whether a row of left and one of right meet."""
    if key_of(join, 0, one[2]) != key_of(join, 1, other[2]):
        return False
    return one[0] - join[3] <= other[0] <= one[0] + join[4]


def pair(join, one, other):
    """The row that one of left and one of right make."""
    values = one[2] + tuple([other[2][place] for place in join[2]])
    return (max(one[0], other[0]), one[1] * other[1], values)


def fresh():
    """The state into which nothing has come."""
    return (0, (), ())


def _row_rank(join, side, row):
    """What the rows of one side of a state ascend by."""
    return (ranks(key_of(join, side, row[2])), row_rank(row))


def _with_rows(join, side, table, rows):
    """The rows of one side of a state with the pairs (row, n) put to them."""
    for row, n in rows:
        table = with_more(table, row, n, lambda other: _row_rank(join, side, other))
    return table


def _met(join, side, row, partners):
    """The rows that a row of this side makes with the pairs (row, n) of the other side, ascending."""
    made = []
    for partner, n in partners:
        one, other = (row, partner) if side == 0 else (partner, row)
        if do_meet(join, one, other):
            made.extend([pair(join, one, other)] * n)
    return sorted(made, key=row_rank)


def put(join, state, side, row):
    """The state behind one more row of this side, and the rows that it makes."""
    mark, left, right = state
    if side == 0:
        return (mark, _with_rows(join, 0, left, ((row, 1),)), right), _met(join, 0, row, right)
    return (mark, left, _with_rows(join, 1, right, ((row, 1),))), _met(join, 1, row, left)


def _is_side(join, side, value):
    """Whether anything is the rows of one side of a state."""
    places = join[0] if side == 0 else join[1] + join[2]
    many = max(places, default=-1) + 1
    return is_table(
        value,
        lambda row: is_bare_row(row) and len(row[2]) >= many,
        lambda n: is_from(n, 1),
        lambda row: _row_rank(join, side, row),
    )


def is_state(join, value):
    """Whether anything is a state of the join."""
    if not isinstance(value, tuple) or len(value) != 3 or not is_mark(value[0]):
        return False
    return _is_side(join, 0, value[1]) and _is_side(join, 1, value[2])


def _kept(table, reach, mark):
    """The rows of one side that can still meet one of the other side, which is at most reach behind them."""
    return tuple([entry for entry in table if mark < END and entry[0][0] + reach >= mark])


def marked(join, state, mark):
    """The state behind a mark, and the rows that it gives: none."""
    return (mark, _kept(state[1], join[4], mark), _kept(state[2], join[3], mark)), []


def woven(join, things):
    """The state behind all things in a row, and all rows that they make."""
    state, rows = fresh(), []
    for thing in things:
        if thing[0] == "mark":
            state = marked(join, state, thing[1])[0]
        else:
            state, made = put(join, state, thing[1], thing[2])
            rows.extend(made)
    return state, rows


def all_pairs(join, things):
    """The ascending rows that all rows of left among the things make with all of right that they meet."""
    rows = [thing[1:] for thing in things if thing[0] == "row"]
    left, right = [row for side, row in rows if side == 0], [row for side, row in rows if side == 1]
    made = [pair(join, one, other) for one in left for other in right if do_meet(join, one, other)]
    return sorted(made, key=row_rank)


def judge_pairs(join, things, value):
    """None if anything is a list of just the rows that the things make, else its first fault."""
    if not isinstance(value, list) or not all(is_bare_row(row) for row in value):
        return ("form",)
    right = all_pairs(join, things)
    due, there = bag_of(right), bag_of(value)
    for row in value:
        if there[row] > due.get(row, 0):
            return ("spare", row)
    for row in right:
        if due[row] > there.get(row, 0):
            return ("lacks", row)
    return None


def _of_groups(join, side, table, groups):
    """The rows of one side whose keys are of some groups."""
    return tuple([entry for entry in table if group(key_of(join, side, entry[0][2])) in groups])


def split(join, state, groups):
    """The state with the rows alone whose keys are of some groups."""
    return (state[0], _of_groups(join, 0, state[1], groups), _of_groups(join, 1, state[2], groups))


def joined(join, states):
    """The state with all rows of some states of one mark."""
    mark, left, right = states[0]
    for place, state in enumerate(states[1:], 1):
        if state[0] != mark:
            raise BadInput(place)
        left, right = _with_rows(join, 0, left, state[1]), _with_rows(join, 1, right, state[2])
    return (mark, left, right)


def join_operator(join, sides):
    """What a task of a join does whose inputs are of these sides: the functions fresh, put and marked."""
    def put_in_order(state, i, row):
        after, rows = put(join, state, sides[i], row)
        return after, tuple(rows)

    return (fresh, put_in_order, lambda state, mark: (marked(join, state, mark)[0], ()))


def _shared_side(join, side, table, many):
    """What each of so many tasks gets of the rows of one side."""
    return shared_out(table, lambda entry: key_of(join, side, entry[0][2]), many)


def join_dealt(join, states, many):
    """What each of so many tasks gets of all states of the tasks of a join."""
    mark, left, right = joined(join, states)
    lefts, rights = _shared_side(join, 0, left, many), _shared_side(join, 1, right, many)
    return [(mark, ones, others) for ones, others in zip(lefts, rights)]
