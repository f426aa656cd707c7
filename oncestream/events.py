"""Events: which there are, and whether a value is one of a world with some plan and some logs."""

from oncestream.control import is_workers
from oncestream.meaning import is_entry_of
from oncestream.queries import step_of
from oncestream.values import is_from

# The words of the events that stand within a torn one.
TORN = ("feed", "read", "move", "begin", "hear", "fall", "workers")


def _is_alone(plan, logs, event):
    """Whether an event has no parts."""
    return len(event) == 1


def _is_numbered(plan, logs, event):
    """Whether an event has a number for its only part."""
    return len(event) == 2 and is_from(event[1], 0)


def _is_feed(plan, logs, event):
    """Whether an event tells a source, a part that it has, and an entry of its columns."""
    if len(event) != 4 or not isinstance(event[1], str) or not is_from(event[2], 0) or event[1:3] not in logs:
        return False
    return is_entry_of(step_of(plan, event[1])[1], event[3])


def _is_change(plan, logs, event):
    """Whether an event tells workers for all steps of the plan."""
    if len(event) != 2 or not is_workers(event[1]):
        return False
    return [name for name, _ in event[1]] == sorted([pair[0] for pair in plan])


FORMS = {
    "feed": _is_feed, "read": _is_numbered, "move": _is_numbered, "begin": _is_alone, "again": _is_alone,
    "hear": _is_numbered, "lose": _is_numbered, "double": _is_numbered, "fall": _is_alone, "stop": _is_alone,
    "workers": _is_change,
}


def _is_whole(plan, logs, value):
    """Whether anything is an event that is not torn."""
    if not isinstance(value, tuple) or len(value) == 0 or not isinstance(value[0], str) or value[0] not in FORMS:
        return False
    is_form = FORMS[value[0]]
    return is_form(plan, logs, value)


def is_event_of(plan, logs, value):
    """Whether anything is an event."""
    if not isinstance(value, tuple) or len(value) != 3 or value[0] != "torn":
        return _is_whole(plan, logs, value)
    return _is_whole(plan, logs, value[1]) and value[1][0] in TORN and is_from(value[2], 0)
