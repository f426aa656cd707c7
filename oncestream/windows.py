"""Windows of time, and the state of a step that sums: what has come for each key and slot, and what closes."""

from math import gcd

from oncestream.errors import BadInput
from oncestream.expressions import worth_by
from oncestream.graphs import group, shared_out
from oncestream.marks import is_mark
from oncestream.sums import is_lot, merged, row_alone, rows_in, told
from oncestream.tables import is_table, looked_up, with_thing
from oncestream.values import is_from, is_value, places_in, rank, ranks


def windows_of(window, time):
    """The ascending stretches that have a time; not for sessions."""
    size, step = window[1], window[-1]
    first = max(0, (time - size) // step + 1)
    return tuple([(low, low + size) for low in range(first * step, time + 1, step)])


def chained(times, gap):
    """The stretches of ascending times of which those that are less than the gap apart belong together."""
    ends = [at for at, time in enumerate(times) if at + 1 == len(times) or times[at + 1] - time >= gap]
    begins = [0] + [at + 1 for at in ends]
    return tuple([(times[begin], times[end] + gap) for begin, end in zip(begins, ends)])


def slot(window, time):
    """The time at which a row of this time is put together with others."""
    return time if window[0] == "session" else time - time % gcd(window[1], window[-1])


def _by_slot(window, slots):
    """The stretches that have each of these slots of one key: a dict from the slots."""
    if window[0] != "session":
        return {at: windows_of(window, at) for at in slots}
    chains = chained(slots, window[1])
    return {at: tuple([chain for chain in chains if chain[0] <= at < chain[1]]) for at in slots}


def stretches(window, slots):
    """The ascending windows that have some of these slots of one key."""
    found = _by_slot(window, slots)
    return tuple(sorted(set([stretch for at in slots for stretch in found[at]])))


def fresh():
    """The state into which nothing has come."""
    return (0, ())


def _hows(step):
    """The hows of the sums of a step."""
    return tuple([how for _, how, _ in step[4]])


def _with_lots(hows, groups, key, lots):
    """The keys and slots of a state with the pairs (slot, lot) put to those of a key."""
    slots = looked_up(groups, key, ranks) or ()
    for at, lot in lots:
        there = looked_up(slots, at, rank)
        slots = with_thing(slots, at, lot if there is None else merged(hows, there, lot), rank)
    return with_thing(groups, key, slots, ranks)


def _is_in_window(window, time):
    """Whether a time is in some window: between sliding ones there may be times that are in none."""
    return window[0] != "sliding" or len(windows_of(window, time)) > 0


def _putting(columns, step):
    """The function that tells the state behind one more row of these columns."""
    window, hows, places = step[3], _hows(step), places_in(columns, step[2])
    worths = [worth_by(columns, e) for _, _, e in step[4]]

    def put_row(state, row):
        time, sign, values = row
        if time < state[0] or not _is_in_window(window, time):
            return state
        lot = row_alone(hows, [worth(values) for worth in worths], sign)
        key = tuple([values[place] for place in places])
        return (state[0], _with_lots(hows, state[1], key, ((slot(window, time), lot),)))

    return put_row


def put(columns, step, state, row):
    """The state behind one more row, and the rows that it gives: none."""
    put_row = _putting(columns, step)
    return put_row(state, row), ()


def _window_row(hows, key, stretch, lot):
    """What a window of a key gives that closes."""
    return (stretch[1] - 1, 1, key + stretch + told(hows, lot))


def _closing(hows, slots, found, elder, mark):
    """The lots of the windows that close between two marks: a dict from the stretches."""
    lots = {}
    for at, lot in slots:
        for stretch in found[at]:
            if elder < stretch[1] <= mark:
                lots[stretch] = merged(hows, lots[stretch], lot) if stretch in lots else lot
    return lots


def marked(step, state, mark):
    """The state behind a greater mark, and the rows of the windows that close."""
    hows, rows, groups = _hows(step), [], []
    for key, slots in state[1]:
        found = _by_slot(step[3], [at for at, _ in slots])
        lots = _closing(hows, slots, found, state[0], mark)
        rows.extend([_window_row(hows, key, stretch, lots[stretch]) for stretch in lots])
        left = tuple([pair for pair in slots if any(stretch[1] > mark for stretch in found[pair[0]])])
        if len(left) > 0:
            groups.append((key, left))
    # All rows have as many keys as one another, so their values ascend by the key first, and then by low.
    rows = sorted(rows, key=lambda row: (row[0], ranks(row[2])))
    return (mark, tuple(groups)), tuple(rows)


def _open_stretches(step, mark, slots):
    """The windows of these slots of one key that are still to close."""
    return [stretch for stretch in stretches(step[3], slots) if stretch[1] > mark]


def open_windows(step, state):
    """All (key, low, high) that are still to close."""
    found = []
    for key, slots in state[1]:
        still = _open_stretches(step, state[0], [at for at, _ in slots])
        found.extend([(key, low, high) for low, high in still])
    return sorted(found, key=lambda entry: (entry[2], ranks(entry[0]), entry[1]))


def next_close(step, state):
    """The least high of all windows that are still to close, None if there are none."""
    return min([high for _, _, high in open_windows(step, state)], default=None)


def count_slots(state):
    """How many slots there are, of all keys."""
    return sum([len(slots) for _, slots in state[1]])


def _is_key(step, value):
    """Whether anything is a key of the step."""
    return isinstance(value, tuple) and len(value) == len(step[2]) and all(is_value(member) for member in value)


def _is_come(step, value):
    """Whether anything is a lot of the step into which a row has come."""
    return is_lot(_hows(step), value) and rows_in(value) > 0


def _is_slots(step, mark, value):
    """Whether anything is the slots of one key, each in a window that is still to close."""
    if not is_table(value, lambda at: is_from(at, 0), lambda lot: _is_come(step, lot), rank) or len(value) == 0:
        return False
    slots = [at for at, _ in value]
    if not all(slot(step[3], at) == at for at in slots):
        return False
    found = _by_slot(step[3], slots)
    return all(any(stretch[1] > mark for stretch in found[at]) for at in slots)


def is_state(step, value):
    """Whether anything is a state of the step."""
    if not isinstance(value, tuple) or len(value) != 2 or not is_mark(value[0]):
        return False
    return is_table(value[1], lambda key: _is_key(step, key), lambda slots: _is_slots(step, value[0], slots), ranks)


def split(state, groups):
    """The state with the keys of some groups alone."""
    return (state[0], tuple([pair for pair in state[1] if group(pair[0]) in groups]))


def joined(step, states):
    """The state with all keys of some states of one mark."""
    hows, groups = _hows(step), ()
    for number, (mark, more) in enumerate(states):
        if mark != states[0][0]:
            raise BadInput(number)
        for key, slots in more:
            if looked_up(groups, key, ranks) is None:
                groups = with_thing(groups, key, slots, ranks)
            else:
                groups = _with_lots(hows, groups, key, slots)
    return (states[0][0], groups)


def sum_operator(columns, step):
    """What a task does whose step sums rows of these columns: the functions fresh, put and marked."""
    put_row = _putting(columns, step)
    return (fresh, lambda state, i, row: (put_row(state, row), ()), lambda state, mark: marked(step, state, mark))


def sum_dealt(step, states, many):
    """What each of so many tasks gets of all states of the tasks of a step."""
    mark, groups = joined(step, states)
    return [(mark, lot) for lot in shared_out(groups, lambda pair: pair[0], many)]
