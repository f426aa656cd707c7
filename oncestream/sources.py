"""Sources: how far a task has read the parts that it has, which rows came late, and how parts are dealt to tasks."""

from oncestream.logs import entry_at
from oncestream.marks import END


def fresh_source(numbers):
    """The source with these parts that has read nothing."""
    return (tuple([(number, 0, 0) for number in numbers]), (), None)


def mark_of(source):
    """The least mark of the parts, END if there are none."""
    return min([mark for _, _, mark in source[0]], default=END)


def begun(source):
    """The things that a source gives first."""
    return (("mark", mark_of(source)),)


def _triple_of(source, part):
    """How far a part is read: (part, place, mark)."""
    return [triple for triple in source[0] if triple[0] == part][0]


def _moved_on(source, part, mark):
    """The source behind one more entry of a part, with this mark of it."""
    parts = [(part, place + 1, mark) if number == part else (number, place, m) for number, place, m in source[0]]
    return (tuple(parts),) + source[1:]


def read(source, part, entry):
    """The source behind the next entry of a part, and the things that it gives."""
    mark = _triple_of(source, part)[2]
    if entry[0] == "mark":
        after = _moved_on(source, part, max(mark, entry[1]))
        return after, begun(after) if mark_of(after) > mark_of(source) else ()
    parts, late, letter = _moved_on(source, part, mark)
    row = entry[1:]
    if row[0] < mark:
        return (parts, late + (row,), letter), ()
    return (parts, late, letter), (("row", row),)


def read_next(source, part, log):
    """What read returns of the entry that comes next in the log of a part, None if there is none."""
    entry = entry_at(log, _triple_of(source, part)[1])
    return None if entry is None else read(source, part, entry)


def at_source(source, epoch, n, task):
    """The source behind a barrier, what is kept of it, and the letter with its late rows."""
    parts, late, _ = source
    letter = ("hold", epoch, n, task, late)
    return (parts, (), letter), parts, letter


def back_source(kept):
    """The source as it comes back from what was kept of it."""
    return (kept, (), None)


def again(holder):
    """The letter of the last barrier of a source or a sink, in a tuple, () if there is none."""
    return () if holder[-1] is None else (holder[-1],)


def read_all(source, order, logs):
    """The source behind the next entry of each of a list of parts in turn, and all things that they give."""
    given = []
    for part in order:
        found = read_next(source, part, logs[part])
        if found is not None:
            source, things = found
            given.extend(things)
    return source, tuple(given)


def dealt(count, workers):
    """Which of so many parts each of so many workers has."""
    return tuple([tuple(range(number, count, workers)) for number in range(workers)])


def dealt_anew(keeps, workers):
    """What each of so many workers has of the kept parts of a list of sources."""
    triples = sorted([triple for kept in keeps for triple in kept])
    return tuple([tuple([triple for triple in triples if triple[0] % workers == number]) for number in range(workers)])
