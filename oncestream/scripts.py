"""Rows, events and scripts as texts, written and read."""

from oncestream.events import TORN
from oncestream.reading import behind_word, need_end, read_integer, read_number, read_one_of
from oncestream.texts import list_text, need_text, read_list, read_members, read_name, read_quoted
from oncestream.texts import value_text, words_text

MOST_DIGITS = 400


def row_text(row):
    """The text of a row."""
    time, sign, values = row
    return words_text((time, "+" if sign == 1 else "-", list_text([value_text(value) for value in values])))


def _entry_text(entry):
    return words_text(entry) if entry[0] == "mark" else "row " + row_text(entry[1:])


def event_text(event):
    """The text of an event."""
    word = event[0]
    if word == "feed":
        return f"feed {event[1]} {event[2]} {_entry_text(event[3])}"
    if word == "workers":
        return "workers " + list_text([words_text(pair) for pair in event[1]])
    return f"torn {event[2]} {event_text(event[1])}" if word == "torn" else words_text(event)


def script_text(script):
    """The text of a list of events, a line for each."""
    return "\n".join([event_text(event) for event in script])


def _read_number(text, at):
    """An integer from 0 on."""
    return read_number(text, at, MOST_DIGITS)


def _read_value(text, at):
    first = text[at:at + 1]
    if first == "(":
        return None, behind_word(text, at, "()")
    if first == '"':
        return read_quoted(text, at + 1)
    return read_integer(text, at, MOST_DIGITS)


def _read_values(text, at):
    # A - stands for no values, unless a number below 0 begins with it.
    if text[at:at + 1] == "-" and not text[at + 1:at + 2].isdigit():
        return (), at + 1
    return read_members(text, at, _read_value)


def _read_row(text, at):
    time, at = _read_number(text, at)
    sign, at = read_one_of(text, behind_word(text, at, " "), ["+ ", "- "])
    values, at = _read_values(text, at)
    return (time, 1 if sign == "+ " else -1, values), at


def _read_feed(text, at):
    source, at = read_name(text, at)
    part, at = _read_number(text, behind_word(text, at, " "))
    word, at = read_one_of(text, behind_word(text, at, " "), ["row ", "mark "])
    if word == "row ":
        row, at = _read_row(text, at)
        return (source, part, ("row",) + row), at
    mark, at = _read_number(text, at)
    return (source, part, ("mark", mark)), at


def _read_one_number(text, at):
    number, at = _read_number(text, at)
    return (number,), at


def _read_pair(text, at):
    name, at = read_name(text, at)
    many, at = _read_number(text, behind_word(text, at, " "))
    return (name, many), at


def _read_workers(text, at):
    workers, at = read_list(text, at, _read_pair)
    return (workers,), at


def _read_nothing(text, at):
    return (), at


# What stands behind each word; ahead of it goes a blank, if it is anything.
READERS = {
    "feed ": _read_feed, "read ": _read_one_number, "move ": _read_one_number, "begin": _read_nothing,
    "again": _read_nothing, "hear ": _read_one_number, "lose ": _read_one_number, "double ": _read_one_number,
    "fall": _read_nothing, "stop": _read_nothing, "workers ": _read_workers,
}


def _read_whole(text, at, words):
    """An event that is not torn, with one of these words."""
    word, at = read_one_of(text, at, words)
    read = READERS[word]
    told, at = read(text, at)
    return (word.strip(),) + told, at


def _read_event(text, at):
    if text[at:at + 1] != "t":
        return _read_whole(text, at, list(READERS))
    keep, at = _read_number(text, behind_word(text, at, "torn "))
    event, at = _read_whole(text, behind_word(text, at, " "), [word for word in READERS if word.strip() in TORN])
    return ("torn", event, keep), at


def read_row(text):
    """The row that a text tells; raises BadText if it tells none."""
    need_text(text)
    row, at = _read_row(text, 0)
    need_end(text, at)
    return row


def read_event(text):
    """The event that a text tells; raises BadText if it tells none."""
    need_text(text)
    event, at = _read_event(text, 0)
    need_end(text, at)
    return event


def read_script(text):
    """The events that a text tells, one a line; raises BadText if it tells none."""
    need_text(text)
    if text == "":
        return []
    event, at = _read_event(text, 0)
    script = [event]
    while at < len(text):
        event, at = _read_event(text, behind_word(text, at, "\n"))
        script.append(event)
    return script
