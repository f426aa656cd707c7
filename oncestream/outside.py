"""The outside: rows are held for it, and committed when all that belongs together is held."""

from oncestream.bags import counted
from oncestream.tables import is_rising
from oncestream.values import is_bare_row, is_from, is_name


def fresh_outside():
    """The outside that has heard nothing."""
    return (0, (), ())


def last_of(outside):
    """The greatest number that is committed, 0 if none is."""
    return max([n for n, _ in outside[2]], default=0)


def _is_task(value):
    """Whether anything is a task: a pair of a name and an integer from 0 on."""
    return isinstance(value, tuple) and len(value) == 2 and is_name(value[0]) and is_from(value[1], 0)


def _is_hold(value):
    if len(value) != 5 or not is_from(value[2], 1) or not _is_task(value[3]) or not isinstance(value[4], tuple):
        return False
    return all(is_bare_row(row) for row in value[4])


def _is_commit(value):
    if len(value) != 4 or not is_from(value[2], 1) or not isinstance(value[3], tuple):
        return False
    return all(_is_task(task) for task in value[3]) and is_rising(value[3])


def is_letter(value):
    """Whether anything is a letter to the outside."""
    if not isinstance(value, tuple) or len(value) < 3 or not is_from(value[1], 0):
        return False
    if value[0] == "hold":
        return _is_hold(value)
    if value[0] == "commit":
        return _is_commit(value)
    return value[0] == "drop" and len(value) == 3 and is_from(value[2], 0)


def _held(holds):
    """The rows of all holds, by their epochs, numbers and tasks."""
    return {hold[:3]: hold[3] for hold in holds}


def _hear_hold(outside, letter):
    epoch, holds, commits = outside
    if letter[1] < epoch:
        return outside, ()
    key = letter[1:4]
    if letter[2] > last_of(outside) and key not in _held(holds):
        # No two holds have the same first three members: so rows, which need not ascend, are not compared.
        holds = tuple(sorted(holds + (letter[1:],), key=lambda hold: hold[:3]))
    return (epoch, holds, commits), (("held",) + key,)


def _hear_commit(outside, letter):
    epoch, holds, commits = outside
    _, elder, n, tasks = letter
    if n <= last_of(outside):
        return outside, (("done", n),)
    held = _held(holds)
    if not all((elder, n, task) in held for task in tasks):
        return outside, ()
    lots = tuple([(task, held[(elder, n, task)]) for task in tasks])
    left = tuple([hold for hold in holds if hold[:2] != (elder, n) or hold[2] not in tasks])
    return (epoch, left, commits + ((n, lots),)), (("done", n),)


def _hear_drop(outside, letter):
    epoch, holds, commits = outside
    if letter[2] > last_of(outside):
        return outside, ()
    epoch = max(epoch, letter[1])
    return (epoch, tuple([hold for hold in holds if hold[0] >= epoch]), commits), (("dropped", letter[1]),)


def heard(outside, letter):
    """The outside behind a letter, and the letters that it answers."""
    if letter[0] == "hold":
        return _hear_hold(outside, letter)
    return _hear_commit(outside, letter) if letter[0] == "commit" else _hear_drop(outside, letter)


def heard_all(outside, letters):
    """The outside behind all letters of a list, and all that it answers."""
    answers = []
    for letter in letters:
        outside, more = heard(outside, letter)
        answers.extend(more)
    return outside, tuple(answers)


def bag_of(rows):
    """The bag of a list of rows."""
    return counted(rows)


def committed(outside, step):
    """The bag of all rows that are committed of the tasks of a step."""
    return counted([row for _, lots in outside[2] for task, rows in lots if task[0] == step for row in rows])


def agree(letters):
    """Whether no two letters of a list tell unlike things of the same."""
    told = {}
    for letter in letters:
        if letter[0] == "hold":
            key, thing = letter[1:4], letter[4]
        elif letter[0] == "commit":
            key, thing = letter[2], (letter[1], letter[3])
        else:
            continue
        if told.setdefault(key, thing) != thing:
            return False
    return True


def not_done(letters):
    """The ascending numbers of the commits of a list that are not done when all letters have been heard."""
    done = [n for n, _ in heard_all(fresh_outside(), letters)[0][2]]
    return tuple(sorted(set([letter[2] for letter in letters if letter[0] == "commit" and letter[2] not in done])))
