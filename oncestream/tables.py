"""Tables: ascending tuples of pairs (key, thing), each key once.

Wherever a table is passed, rank_of is a function that tells of each key what keys ascend by.
"""


def _place(table, wanted, rank_of):
    """How many pairs stand ahead of the place at which a key of this rank stands or would stand."""
    low, high = 0, len(table)
    while low < high:
        middle = (low + high) // 2
        if rank_of(table[middle][0]) < wanted:
            low = middle + 1
        else:
            high = middle
    return low


def looked_up(table, key, rank_of):
    """The thing beside a key, None if the key does not stand there."""
    at = _place(table, rank_of(key), rank_of)
    return table[at][1] if at < len(table) and table[at][0] == key else None


def with_thing(table, key, thing, rank_of):
    """The table with this thing beside the key; without the key, if the thing is None."""
    at = _place(table, rank_of(key), rank_of)
    behind = at + 1 if at < len(table) and table[at][0] == key else at
    return table[:at] + (() if thing is None else ((key, thing),)) + table[behind:]


def with_more(table, key, n, rank_of):
    """The table of integers other than 0 in which n more stands beside the key."""
    many = (looked_up(table, key, rank_of) or 0) + n
    return with_thing(table, key, None if many == 0 else many, rank_of)


def is_rising(ranked):
    """Whether each of a list of things is less than the next one."""
    return all(one < other for one, other in zip(ranked, ranked[1:]))


def is_table(value, is_key, is_thing, rank_of):
    """Whether anything is a table whose keys and things are all such."""
    if not isinstance(value, tuple) or not all(isinstance(pair, tuple) and len(pair) == 2 for pair in value):
        return False
    if not all(is_key(key) and is_thing(thing) for key, thing in value):
        return False
    return is_rising([rank_of(key) for key, _ in value])
