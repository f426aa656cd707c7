"""Control: it counts epochs and numbers, tells tasks when to stop, and decides by one record what is committed."""

from oncestream.errors import BadText
from oncestream.queries import sources_of
from oncestream.seals import read_records, read_word, sealed, word_text
from oncestream.shelves import is_any_task
from oncestream.tables import is_rising
from oncestream.values import is_from, is_name, is_number

MOST_WORKERS = 4


def all_tasks(query, workers):
    """The ascending tuple of all tasks."""
    return tuple(sorted([(name, number) for name, many in workers for number in range(many)]))


def source_tasks(query, workers):
    """The ascending tuple of the tasks of all sources."""
    names = sources_of(query)
    return tuple([task for task in all_tasks(query, workers) if task[0] in names])


def holders(query, workers):
    """The ascending tuple of the tasks that hold rows for the outside."""
    names = sources_of(query) + ("out",)
    return tuple([task for task in all_tasks(query, workers) if task[0] in names])


def _is_pair(value):
    """Whether anything is a pair of a name and how many tasks do its step."""
    return isinstance(value, tuple) and len(value) == 2 and is_name(value[0]) and is_number(value[1], 1, MOST_WORKERS)


def is_workers(value):
    """Whether anything tells for some ascending names how many tasks do their steps."""
    if not isinstance(value, tuple) or not all(_is_pair(pair) for pair in value):
        return False
    return is_rising([name for name, _ in value])


def _is_told(value):
    """Whether anything is a record of the disk."""
    if not isinstance(value, tuple) or len(value) < 3 or not is_workers(value[-1]):
        return False
    if not all(is_from(number, 1) for number in value[1:-1]):
        return False
    return (value[0], len(value)) in (("epoch", 3), ("complete", 4))


def _told_in(text):
    """The record that a sealed text tells, None if it tells none."""
    try:
        told = read_word(text)
    except BadText:
        return None
    return told if _is_told(told) else None


def records_of(disk):
    """The records that stand whole at the beginning of a disk."""
    found = [_told_in(text) for text in read_records(disk)[0]]
    return tuple(found[:found.index(None)] if None in found else found)


def records_text(records):
    """The text of all records of a list."""
    return "".join([sealed(word_text(told)) for told in records])


def written(disk, records):
    """The disk with more records behind its last whole one."""
    return records_text(records_of(disk)) + records_text(records)


def torn(disk, records, keep):
    """The disk behind the writing of records of which only the first signs came to stand, so many."""
    return records_text(records_of(disk)) + records_text(records)[:keep]


def _same(control):
    """The triple of a control that has nothing to tell."""
    return {**control}, [], ()


class Ruler:
    """What control of one query does next; all methods but again return a triple (control, records, letters)."""

    def __init__(self, query):
        self._query = query
        # By workers: the tasks that are to keep their states, those whose rows are to be held, and those that are told
        # to begin.
        self._crews = {}

    def _crew(self, workers):
        if workers not in self._crews:
            tasks, sources = all_tasks(self._query, workers), sources_of(self._query)
            begin_tasks = tuple([task for task in tasks if task[0] in sources])
            held_tasks = tuple([task for task in tasks if task[0] in sources or task[0] == "out"])
            self._crews[workers] = {"kept": tasks, "held": held_tasks, "begin": begin_tasks}
        return self._crews[workers]

    def again(self, control):
        """The letters that control waits to be answered, ascending."""
        epoch, last = control["epoch"], control["last"]
        if control["phase"] == "commit":
            return (("commit", control["last_epoch"], last, self._crew(control["last_workers"])["held"]),)
        if control["phase"] == "drop":
            return (("drop", epoch, last),)
        if control["phase"] == "run":
            return ()
        left = [task for task in self._crew(control["workers"])["begin"] if task not in control["kept"]]
        return tuple([("begin", epoch, last + 1, task) for task in left])

    def _changed(self, control, phase, records):
        """The triple of a control whose epoch or phase is another one now."""
        changed = {**control, "phase": phase}
        return changed, records, self.again(changed)

    def first(self, workers):
        """Control at the beginning."""
        control = {
            "query": self._query, "workers": workers, "epoch": 1, "last": 0, "last_epoch": 0, "last_workers": (),
            "kept": (), "held": (),
        }
        return self._changed(control, "drop", [("epoch", 1, workers)])

    def begin(self, control):
        """Control behind the wish to begin with the next number."""
        return self._changed(control, "barrier", []) if control["phase"] == "run" else _same(control)

    def _completed(self, control):
        """Control behind the last letter that the number that goes on was waiting for."""
        n, epoch, workers = control["last"] + 1, control["epoch"], control["workers"]
        complete = {**control, "last": n, "last_epoch": epoch, "last_workers": workers, "kept": (), "held": ()}
        return self._changed(complete, "commit", [("complete", n, epoch, workers)])

    def _hear_of_task(self, control, letter):
        """Control behind a letter that a task has kept its state, or that its rows are held."""
        field, task = letter[0], letter[3]
        if control["phase"] != "barrier" or letter[1:3] != (control["epoch"], control["last"] + 1):
            return _same(control)
        awaited = self._crew(control["workers"])
        if not is_any_task(task) or task not in awaited[field] or task in control[field]:
            return _same(control)
        told = {**control, field: tuple(sorted(control[field] + (task,)))}
        if told["kept"] == awaited["kept"] and told["held"] == awaited["held"]:
            return self._completed(told)
        return _same(told)

    def hear(self, control, letter):
        """Control behind a letter, which may be anything."""
        if not isinstance(letter, tuple) or len(letter) not in (2, 4) or not is_from(letter[1], 1):
            return _same(control)
        if len(letter) == 4:
            is_of_task = letter[0] in ("kept", "held") and is_from(letter[2], 1)
            return self._hear_of_task(control, letter) if is_of_task else _same(control)
        if letter == ("done", control["last"]) and control["phase"] == "commit":
            return self._changed(control, "run" if control["last_epoch"] == control["epoch"] else "drop", [])
        if letter == ("dropped", control["epoch"]) and control["phase"] == "drop":
            return self._changed(control, "run", [])
        return _same(control)

    def renewed(self, control, workers):
        """Control in the next epoch, with these workers."""
        epoch = control["epoch"] + 1
        changed = {**control, "epoch": epoch, "workers": workers, "kept": (), "held": ()}
        return self._changed(changed, "commit" if control["phase"] == "commit" else "drop", [("epoch", epoch, workers)])

    def returned(self, control):
        """Control as it comes back from its disk, on which stands all that this one had written when it fell."""
        epoch, workers = control["epoch"] + 1, control["workers"]
        changed = {**control, "epoch": epoch, "kept": (), "held": ()}
        return self._changed(changed, "commit" if control["last"] > 0 else "drop", [("epoch", epoch, workers)])

    def back(self, workers, disk):
        """Control as it comes back from a disk; workers are those with which it began."""
        control, records = self.first(workers)[0], records_of(disk)
        epochs = [told for told in records if told[0] == "epoch"]
        if len(epochs) == 0:
            return self.first(workers)
        control["epoch"], control["workers"] = epochs[-1][1:]
        completes = [told for told in records if told[0] == "complete"]
        if len(completes) > 0:
            control["last"], control["last_epoch"], control["last_workers"] = completes[-1][1:]
        return self.returned(control)

    def happened(self, control, happening):
        """The triple of a control behind a happening by which it does not fall."""
        if happening[0] == "begin":
            return self.begin(control)
        if happening[0] == "hear":
            return self.hear(control, happening[1])
        if happening[0] == "renew":
            return self.renewed(control, happening[1])
        return control, [], self.again(control)


def again(control):
    """The letters that control waits to be answered, ascending."""
    return Ruler(control["query"]).again(control)


def first(query, workers):
    """Control at the beginning, its records and its letters."""
    return Ruler(query).first(workers)


def begin(control):
    """Control behind the wish to begin with the next number, its records and its letters."""
    return Ruler(control["query"]).begin(control)


def hear(control, letter):
    """Control behind a letter, which may be anything, its records and its letters."""
    return Ruler(control["query"]).hear(control, letter)


def renewed(control, workers):
    """Control in the next epoch, with these workers, its records and its letters."""
    return Ruler(control["query"]).renewed(control, workers)


def back(query, workers, disk):
    """Control as it comes back from its disk, its records and its letters; workers are those with which it began."""
    return Ruler(query).back(workers, disk)


def played(query, workers, happenings):
    """Control and its disk behind a list of happenings, and all letters that left."""
    ruler = Ruler(query)
    control, records, letters = ruler.first(workers)
    disk, sent = records_text(records), list(letters)
    for happening in happenings:
        if happening[0] == "torn":
            behind, records, _ = ruler.happened(control, happening[1])
            text = records_text(records)
            # What is torn was never there: control comes back without it, and writes over it.
            if happening[2] >= len(text):
                control, disk = behind, disk + text
        if happening[0] in ("torn", "stop"):
            control, records, letters = ruler.returned(control)
        else:
            control, records, letters = ruler.happened(control, happening)
        disk = disk + records_text(records)
        sent.extend(letters)
    return control, disk, tuple(sent)
