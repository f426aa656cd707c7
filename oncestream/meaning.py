"""The plain meaning of a query: what it gives for a whole input, told slowly and shortly.

The interface calls an input "input"; here it is "fed", as that word is no name in this subset of Python.
"""

from oncestream.bags import bag_of, row_rank
from oncestream.expressions import holding, worth_by
from oncestream.logs import late_places
from oncestream.marks import END, is_mark
from oncestream.queries import all_columns, made_of, out_of, sources_of, step_of, wanted_of
from oncestream.values import is_row, places_in, rank


def is_entry_of(columns, value):
    """Whether anything is an entry of a source with these columns."""
    if not isinstance(value, tuple) or len(value) == 0:
        return False
    if value[0] == "row":
        return is_row(columns, value[1:])
    return value[0] == "mark" and len(value) == 2 and is_mark(value[1])


def _is_parts(value):
    """Whether anything is a tuple of tuples."""
    return isinstance(value, tuple) and all(isinstance(part, tuple) for part in value)


def input_fault(query, value):
    """None if anything is an input of the query, else its first fault."""
    names = sources_of(query)
    if not isinstance(value, dict) or len(value) != len(names) or not all(name in value for name in names):
        return ("form",)
    for name in names:
        if not _is_parts(value[name]):
            return ("parts", name)
    for name in names:
        columns = step_of(query, name)[1]
        for number, part in enumerate(value[name]):
            for place, entry in enumerate(part):
                if not is_entry_of(columns, entry):
                    return ("entry", name, number, place)
    return None


def places_of(fed):
    """The places of an input at which all entries have been read."""
    return {(name, number): len(part) for name in fed for number, part in enumerate(fed[name])}


def cut(fed, places):
    """The input in which each part has only its entries up to these places."""
    return {
        name: tuple([part[:places[(name, number)]] for number, part in enumerate(fed[name])])
        for name in fed
    }


def is_further(places, other):
    """Whether nothing is less in the second places than in the first ones."""
    return all(places[part] <= other[part] for part in places)


def _part_mark(part):
    """The greatest mark of a part, 0 without marks."""
    return max([entry[1] for entry in part if entry[0] == "mark"], default=0)


def marks_of(query, fed):
    """The marks of all steps by their names."""
    marks = {}
    for name, step in query[:-1]:
        if step[0] == "source":
            marks[name] = min([_part_mark(part) for part in fed[name]], default=END)
        else:
            marks[name] = min([marks[of] for of in made_of(step)])
    return marks


def all_late(fed):
    """The ascending list of all late rows, each as (source, part, number)."""
    return sorted([
        (name, number, place) for name in fed for number, part in enumerate(fed[name]) for place in late_places(part)
    ])


# What steps give stands in lists of pairs (row, lot), in no told order.


def _together(one, other):
    """The lot of what comes of two lots."""
    return tuple(sorted(set(one + other)))


def _source_rows(name, parts):
    """What a source gives."""
    given = []
    for number, part in enumerate(parts):
        late = late_places(part)
        for place, entry in enumerate(part):
            if entry[0] == "row" and place not in late:
                given.append((entry[1:], ((name, number, place),)))
    return given


def _made_rows(columns, told, given):
    """What a make makes of the pairs (row, lot) of rows of these columns."""
    worths = [worth_by(columns, e) for _, e in told]
    return [((row[0], row[1], tuple([worth(row[2]) for worth in worths])), lot) for row, lot in given]


def _by_keys(columns, keys, given):
    """The pairs (row, lot) of each tuple of values of the keys."""
    groups, places = {}, places_in(columns, keys)
    for row, lot in given:
        groups.setdefault(tuple([row[2][place] for place in places]), []).append((row, lot))
    return groups


def _sessions(gap, times):
    """The session of each of these times, all of one key: a dict from times to windows."""
    chains = []
    for time in sorted(times):
        if len(chains) == 0 or time - chains[-1][-1] >= gap:
            chains.append([])
        chains[-1].append(time)
    return {time: (chain[0], chain[-1] + gap) for chain in chains for time in chain}


def _windows_at(window, time):
    """The windows of a time, sessions apart."""
    if window[0] == "even":
        low = time - time % window[1]
        return [(low, low + window[1])]
    size, step = window[1], window[2]
    first = max(0, (time - size) // step + 1)
    return [(low, low + size) for low in range(first * step, time + 1, step)]


def _by_windows(window, given):
    """The pairs (row, lot) of each window, of rows of one key."""
    groups = {}
    sessions = _sessions(window[1], [row[0] for row, _ in given]) if window[0] == "session" else {}
    for row, lot in given:
        windows = [sessions[row[0]]] if window[0] == "session" else _windows_at(window, row[0])
        for stretch in windows:
            groups.setdefault(stretch, []).append((row, lot))
    return groups


def _told(how, worth, rows):
    """What a sum tells of the rows of a window, by the function that tells the worth of what is summed up."""
    if how == "count":
        return sum([row[1] for row in rows])
    worths = [(row[1], worth(row[2])) for row in rows]
    worths = [(sign, value) for sign, value in worths if value is not None]
    if how == "sum":
        return sum([sign * value for sign, value in worths])
    signs = {}
    for sign, value in worths:
        signs[value] = signs.get(value, 0) + sign
    there = sorted([value for value in signs if signs[value] > 0], key=rank)
    if len(there) == 0:
        return None
    return there[0] if how == "least" else there[-1]


def _window_row(sums, key, stretch, given):
    """What a closed window gives, of the pairs (row, lot) in it; sums are the pairs (how, worth) as _told asks them."""
    rows = [row for row, _ in given]
    told = tuple([_told(how, worth, rows) for how, worth in sums])
    lot = tuple(sorted(set([entry for _, entries in given for entry in entries])))
    return ((stretch[1] - 1, 1, key + stretch + told), lot)


def _sum_rows(columns, step, mark, given):
    """What a sum over rows of these columns gives at a mark."""
    told, sums = [], [(how, worth_by(columns, e)) for _, how, e in step[4]]
    by_keys = _by_keys(columns, step[2], given)
    for key in by_keys:
        by_windows = _by_windows(step[3], by_keys[key])
        for stretch in by_windows:
            if mark == END or stretch[1] <= mark:
                told.append(_window_row(sums, key, stretch, by_windows[stretch]))
    return told


def _join_rows(left, right, step, given, other):
    """What a join of rows of these two columns gives."""
    rest = places_in(right, [column[0] for column in right if column[0] not in step[3]])
    ones, others = _by_keys(left, step[3], given), _by_keys(right, step[3], other)
    found = []
    for key in ones:
        for row, lot in ones[key]:
            for partner, more in others.get(key, []):
                if row[0] - step[4] <= partner[0] <= row[0] + step[5]:
                    values = row[2] + tuple([partner[2][place] for place in rest])
                    found.append(((max(row[0], partner[0]), row[1] * partner[1], values), _together(lot, more)))
    return found


def _step_rows(step, columns, given, mark):
    """What a step that is no source gives, by the columns and the rows of all steps ahead of it."""
    of = step[1]
    if step[0] == "keep":
        is_kept = holding(columns[of], step[2])
        return [(row, lot) for row, lot in given[of] if is_kept(row[2])]
    if step[0] == "make":
        return _made_rows(columns[of], step[2], given[of])
    if step[0] == "both":
        return given[of] + given[step[2]]
    if step[0] == "sum":
        return _sum_rows(columns[of], step, mark, given[of])
    return _join_rows(columns[of], columns[step[2]], step, given[of], given[step[2]])


def _pair_rank(pair):
    """What pairs (row, lot) ascend by."""
    return (row_rank(pair[0]), pair[1])


def rows_with_lots(query, fed):
    """The ascending list of the pairs (row, lot) that the query gives out."""
    columns, marks, given = all_columns(query), marks_of(query, fed), {}
    for name in wanted_of(query):
        step = step_of(query, name)
        if step[0] == "source":
            given[name] = _source_rows(name, fed[name])
        else:
            given[name] = _step_rows(step, columns, given, marks[name])
    return sorted(given[out_of(query)], key=_pair_rank)


def meaning(query, fed):
    """The bag of the rows that the query gives out."""
    return bag_of([row for row, _ in rows_with_lots(query, fed)])


def whole(query, fed):
    """The meaning of the input when nothing more comes."""
    return meaning(query, {name: tuple([part + (("mark", END),) for part in fed[name]]) for name in fed})


def lots_of(query, fed, row):
    """The ascending list of the lots of all rows given out that are this row."""
    return [lot for other, lot in rows_with_lots(query, fed) if other == row]
