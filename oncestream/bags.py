"""Bags: how often each row is there."""

from oncestream.values import ranks


def row_rank(row):
    """What rows ascend by: time, sign, and the ranks of the values."""
    return (row[0], row[1], ranks(row[2]))


def counted(rows):
    """How often each of a list of rows stands there."""
    bag = {}
    for row in rows:
        bag[row] = bag.get(row, 0) + 1
    return bag


def bag_of(rows):
    """The bag of a list of rows."""
    return counted(rows)


def rows_of(bag):
    """The ascending rows of a bag, each as often as it is there."""
    return [row for row in sorted(list(bag), key=row_rank) for _ in range(bag[row])]


def added(one, other):
    """The bag with all rows of both."""
    bag = {row: one[row] for row in one}
    for row in other:
        bag[row] = bag.get(row, 0) + other[row]
    return bag


def taken(one, other):
    """The bag with the rows of the first one of which the second one does not take the last."""
    return {row: one[row] - other.get(row, 0) for row in one if one[row] > other.get(row, 0)}


def is_part(one, other):
    """Whether no row is in the first bag more often than in the second one."""
    return all(one[row] <= other.get(row, 0) for row in one)


def unlike(one, other):
    """The least row that is not in both bags equally often, with both numbers; None for equal bags."""
    rows = [row for row in added(one, other) if one.get(row, 0) != other.get(row, 0)]
    if len(rows) == 0:
        return None
    row = min(rows, key=row_rank)
    return (row, one.get(row, 0), other.get(row, 0))
