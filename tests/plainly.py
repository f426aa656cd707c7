"""Part 3 of the document once more, in other words: each thing looked up by its own definition, however slow."""

from collections import Counter

from oncestream.expressions import worth
from oncestream.queries import columns_of
from oncestream.values import rank

END = 10 ** 9


def mark_at(query, fed, name):
    step = dict(query)[name]
    if step[0] != "source":
        return min(mark_at(query, fed, of) for of in (step[1:3] if step[0] in ("both", "join") else step[1:2]))
    return min([max([0] + [entry[1] for entry in part if entry[0] == "mark"]) for part in fed[name]] + [END])


def is_late(part, number):
    return any(entry[0] == "mark" and entry[1] > part[number][1] for entry in part[:number])


def session_of(time, times, gap):
    """The session of a time, gone back and on from it step by step."""
    low = high = time
    while any(0 < low - other < gap for other in times):
        low = max(other for other in times if 0 < low - other < gap)
    while any(0 < other - high < gap for other in times):
        high = min(other for other in times if 0 < other - high < gap)
    return low, high + gap


def windows_for(window, time, times):
    if window[0] == "session":
        return [session_of(time, times, window[1])]
    size, step = window[1], window[-1]
    return [(low, low + size) for low in range(0, time + 1) if low % step == 0 and low <= time < low + size]


def summed(how, pairs):
    """Of pairs (sign, worth)."""
    if how == "count":
        return sum(sign for sign, _ in pairs)
    left = [(sign, value) for sign, value in pairs if value is not None]
    if how == "sum":
        return sum(sign * value for sign, value in left)
    there = [value for _, value in left if sum(sign for sign, other in left if other == value) > 0]
    if not there:
        return None
    return (min if how == "least" else max)(there, key=rank)


def rows_at(query, fed, name):
    """What a step gives: a list of pairs (row, set of entries)."""
    step = dict(query)[name]
    if step[0] == "source":
        return [(entry[1:], {(name, p, n)}) for p, part in enumerate(fed[name]) for n, entry in enumerate(part)
                if entry[0] == "row" and not is_late(part, n)]
    columns, given = columns_of(query, step[1]), rows_at(query, fed, step[1])
    names = [column for column, _ in columns]
    if step[0] == "keep":
        return [(row, lot) for row, lot in given if worth(columns, step[2], row[2]) not in (None, 0)]
    if step[0] == "make":
        return [(row[:2] + (tuple(worth(columns, e, row[2]) for _, e in step[2]),), lot) for row, lot in given]
    if step[0] == "both":
        return given + rows_at(query, fed, step[2])
    if step[0] == "join":
        return joined_at(query, fed, step, names, given)
    mark, found = mark_at(query, fed, name), []
    keys = [(tuple(row[2][names.index(key)] for key in step[2]), row, lot) for row, lot in given]
    for key in {key for key, _, _ in keys}:
        here = [(row, lot) for other, row, lot in keys if other == key]
        times = [row[0] for row, _ in here]
        for low, high in {stretch for time in times for stretch in windows_for(step[3], time, times)}:
            inside = [(row, lot) for row, lot in here if low <= row[0] < high]
            if mark >= high or mark == END:
                sums = tuple(summed(how, [(row[1], worth(columns, e, row[2])) for row, _ in inside]) for _, how, e in step[4])
                found.append(((high - 1, 1, key + (low, high) + sums), set().union(*[lot for _, lot in inside])))
    return found


def joined_at(query, fed, step, names, given):
    others = [column for column, _ in columns_of(query, step[2])]
    found = []
    for row, lot in given:
        for other, more in rows_at(query, fed, step[2]):
            is_met = all(row[2][names.index(key)] == other[2][others.index(key)] for key in step[3])
            if is_met and row[0] - step[4] <= other[0] <= row[0] + step[5]:
                rest = tuple(value for column, value in zip(others, other[2]) if column not in step[3])
                found.append(((max(row[0], other[0]), row[1] * other[1], row[2] + rest), lot | more))
    return found


def with_lots(query, fed):
    found = [(row, tuple(sorted(lot))) for row, lot in rows_at(query, fed, query[-1][1])]
    return sorted(found, key=lambda pair: (pair[0][:2], [rank(value) for value in pair[0][2]], pair[1]))


def bag(query, fed):
    return dict(Counter(row for row, _ in with_lots(query, fed)))
