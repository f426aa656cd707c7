"""A desk: a house that is spoken to in lines of text."""

from oncestream.errors import BadScript, BadText, NothingDone
from oncestream.house import House
from oncestream.scripts import read_event, read_row, row_text
from oncestream.texts import query_text

WHY = "why "


def _told(lines):
    """The lines of an answer, or what stands in the place of none."""
    return "\n".join(lines) if len(lines) > 0 else "nothing"


def _pair_line(row, many):
    return f"{many} x {row_text(row)}"


def _tell_outside(house):
    return _told([_pair_line(row, many) for row, many in house.outside()])


def _tell_due(house):
    return _told([_pair_line(row, many) for row, many in house.due()])


def _tell_late(house):
    return _told([f"{many} x {source} {row_text(row)}" for (source, row), many in house.late()])


def _task_line(name, number, mark, waits, gone):
    return f"{name} {number} mark {mark} waits {waits} gone {gone}"


def _tell_tasks(house):
    return _told([_task_line(name, number, mark, waits, gone) for name, number, mark, waits, gone in house.tasks()])


def _tell_stand(house):
    epoch, last, phase, letters, read = house.stand()
    return f"epoch {epoch} last {last} {phase} letters {letters} read {read}"


def _lot_line(lot):
    return ", ".join([f"{source} {part} {number}" for source, part, number in lot])


def _tell_why(house, text):
    return _told([_lot_line(lot) for lot in house.why(read_row(text))])


def _tell_right(house):
    return "yes" if house.judge() is None else "no"


def _tell_query(house):
    return query_text(house.world()["plan"])


def _undone(house):
    return str(house.undo())


def _redone(house):
    return str(house.redo())


def _calmed(house):
    return str(house.do(("calm",)))


# What is answered to each line that is one word and no event.
ANSWERS = {
    "calm": _calmed, "undo": _undone, "redo": _redone, "outside": _tell_outside, "due": _tell_due, "late": _tell_late,
    "tasks": _tell_tasks, "stand": _tell_stand, "right": _tell_right, "query": _tell_query,
}


def _answer(house, line):
    """What is answered to a line; raises BadText or BadScript if it is none, NothingDone if it can't be done."""
    if isinstance(line, str) and line in ANSWERS:
        answer = ANSWERS[line]
        return answer(house)
    if isinstance(line, str) and line.startswith(WHY):
        return _tell_why(house, line[len(WHY):])
    return str(house.do(read_event(line)))


class Desk:
    """A desk with a house over a world of this query, as a house is asked for."""

    def __init__(self, query, parts, workers, room):
        self._kept = House(query, parts, workers, room)

    def house(self):
        """The house itself."""
        return self._kept

    def say(self, line):
        """The answer to a line, which may be anything."""
        try:
            return _answer(self._kept, line)
        except NothingDone:
            return "refused"
        except (BadText, BadScript):
            return "what"
