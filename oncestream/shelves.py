"""Shelves: texts on which the states of tasks are kept, sealed, under an epoch and a number."""

from oncestream.errors import BadDisk, BadText
from oncestream.seals import read_records, read_word, sealed, whole_seals, word_text
from oncestream.values import is_from


def kept_text(epoch, n, task, state, mark):
    """The sealed record of a kept state."""
    return sealed(word_text((epoch, n, task, state, mark)))


def mended(shelf):
    """The whole records at the beginning of a shelf alone."""
    return whole_seals(shelf)


def put_down(shelf, epoch, n, task, state, mark):
    """The shelf with one more record behind its last whole one."""
    return mended(shelf) + kept_text(epoch, n, task, state, mark)


def is_any_task(value):
    """Whether anything is a pair of a text and an integer from 0 on."""
    return isinstance(value, tuple) and len(value) == 2 and isinstance(value[0], str) and is_from(value[1], 0)


def _is_kept(value):
    """Whether anything is what a record of a shelf tells; its state may be any word."""
    if not isinstance(value, tuple) or len(value) != 5 or not is_from(value[0], 0) or not is_from(value[1], 1):
        return False
    return is_any_task(value[2]) and (value[4] is None or is_from(value[4], 0))


def _kept_in(text, number):
    """What the record with this number tells."""
    try:
        kept = read_word(text)
    except BadText:
        raise BadDisk(number) from None
    if not _is_kept(kept):
        raise BadDisk(number)
    return kept


def kept_on(shelf):
    """What each whole record tells, in order; raises BadDisk if one tells no kept state."""
    return [_kept_in(text, number) for number, text in enumerate(read_records(shelf)[0])]


def states_on(shelf, epoch, n):
    """The dict from each task with a record of this epoch and number to the state and the mark of its first one."""
    found = {}
    for elder, number, task, state, mark in kept_on(shelf):
        if (elder, number) == (epoch, n) and task not in found:
            found[task] = (state, mark)
    return found


def on_shelf(shelf, epoch, n, task):
    """The state and the mark that are kept first of a task under this epoch and number, None if nothing is."""
    return states_on(shelf, epoch, n).get(task)


def tasks_on(shelf, epoch, n):
    """The ascending tasks with a record of this epoch and number."""
    return tuple(sorted(states_on(shelf, epoch, n)))


def is_whole(shelf, epoch, n, tasks):
    """Whether all tasks of a list have a record of this epoch and number."""
    there = states_on(shelf, epoch, n)
    return all(task in there for task in tasks)


def numbers_on(shelf):
    """The ascending pairs (epoch, n) of which there is a record."""
    return tuple(sorted(set([kept[:2] for kept in kept_on(shelf)])))


def cleared(shelf, epoch, n):
    """The shelf without the records that are elder than this epoch and number."""
    left = [kept for kept in kept_on(shelf) if kept[:2] >= (epoch, n)]
    return "".join([kept_text(elder, number, task, state, mark) for elder, number, task, state, mark in left])
