"""Marks of time, and the least mark of several inputs."""

from oncestream.values import is_number

END = 1000000000


def is_mark(value):
    """Whether anything is a mark."""
    return is_number(value, 0, END)


def new_marks(channels):
    """The marks of a task with these inputs, on which none has come."""
    return {channel: None for channel in channels}


def put_mark(marks, channel, m):
    """The marks behind one more on this channel; a lesser one changes nothing."""
    put = {other: marks[other] for other in marks}
    put[channel] = m if put[channel] is None else max(put[channel], m)
    return put


def least_mark(marks):
    """The least mark of all inputs, None if one has none, END if there are no inputs."""
    found = [marks[channel] for channel in marks]
    return None if None in found else min(found, default=END)


def risen(marks, told):
    """The least mark, if it is one and beyond what was told; else None."""
    least = least_mark(marks)
    if least is None or (told is not None and told >= least):
        return None
    return least
