"""Logs: texts to which entries are written, sealed, and from which they are read again."""

from oncestream.errors import BadDisk, BadText
from oncestream.marks import is_mark
from oncestream.seals import read_records, read_word, records, whole_seals, word_text
from oncestream.values import LAST_TIME, is_bare_row


def is_entry(value):
    """Whether anything is an entry: a row of some columns or other, or a mark."""
    if not isinstance(value, tuple) or len(value) == 0:
        return False
    if value[0] == "row":
        return is_bare_row(value[1:]) and value[1] <= LAST_TIME
    return value[0] == "mark" and len(value) == 2 and is_mark(value[1])


def _entry_in(text, number):
    """The entry that the seal with this number holds."""
    try:
        entry = read_word(text)
    except BadText:
        raise BadDisk(number) from None
    if not is_entry(entry):
        raise BadDisk(number)
    return entry


def entries_of(log):
    """The entries of a log; raises BadDisk if a sealed text is none."""
    return tuple([_entry_in(text, number) for number, text in enumerate(read_records(log)[0])])


def entry_at(log, place):
    """The entry with this number, None if there are not so many; raises BadDisk if a sealed text is none."""
    entries = entries_of(log)
    return entries[place] if place < len(entries) else None


def mended(log):
    """The log without its torn end."""
    return whole_seals(log)


def torn(log, entries, keep):
    """The log behind the writing of entries of which only the first signs came to stand, so many."""
    return mended(log) + records([word_text(entry) for entry in entries])[:keep]


def written(log, entries):
    """The log with entries behind its last whole one."""
    return mended(log) + records([word_text(entry) for entry in entries])


def late_places(entries):
    """The ascending numbers of the rows that come behind a mark above their time."""
    found, mark = [], 0
    for number, entry in enumerate(entries):
        if entry[0] == "mark":
            mark = max(mark, entry[1])
        elif entry[1] < mark:
            found.append(number)
    return tuple(found)
