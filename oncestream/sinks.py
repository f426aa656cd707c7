"""Sinks: the rows that are to be told outside, held back till the next barrier."""


def fresh_sink():
    """The sink to which nothing has come."""
    return ((), None)


def put_row(sink, row):
    """The sink behind one more row."""
    rows, letter = sink
    return (rows + (row,), letter)


def at_sink(sink, epoch, n, task):
    """The sink behind a barrier, what is kept of it, and the letter with its rows."""
    letter = ("hold", epoch, n, task, sink[0])
    return ((), letter), (), letter
