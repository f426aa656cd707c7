"""Values, names, columns and rows: what they are, and their order."""

LETTERS = "abcdefghijklmnopqrstuvwxyz"
SIGNS = "abcdefghijklmnopqrstuvwxyzABCDEFGHIJKLMNOPQRSTUVWXYZ0123456789 -_"
MOST_SIGNS = 12
MOST_LETTERS = 8
MOST_COLUMNS = 8
LAST_TIME = 100000000


def is_from(value, low):
    """Whether a value is an integer from low on; True and False are none."""
    return isinstance(value, int) and not isinstance(value, bool) and value >= low


def is_number(value, low, high):
    """Whether a value is an integer from low to high; True and False are none."""
    return is_from(value, low) and value <= high


def is_value(value):
    """Whether anything is a value: None, an integer, or a short text of plain signs."""
    if isinstance(value, str):
        return len(value) <= MOST_SIGNS and value.strip(SIGNS) == ""
    return value is None or (isinstance(value, int) and not isinstance(value, bool))


def kind_of(value):
    """The kind of a value: "number", "text" or "none"."""
    if value is None:
        return "none"
    return "text" if isinstance(value, str) else "number"


def rank(value):
    """A tuple by which values ascend: None, then the integers, then the texts."""
    if value is None:
        return (0,)
    return (2, value) if isinstance(value, str) else (1, value)


def ranks(values):
    """The ranks of a tuple of values, by which such tuples ascend."""
    return tuple([rank(value) for value in values])


def kept_text(text):
    """As much of a text as a value can hold."""
    return text[:MOST_SIGNS]


def is_name(value):
    """Whether anything is a name: one to eight letters a to z."""
    if not isinstance(value, str) or not 1 <= len(value) <= MOST_LETTERS:
        return False
    return value.strip(LETTERS) == ""


def _is_column(value):
    """Whether anything is a pair of a name and a kind that columns can have."""
    return isinstance(value, tuple) and len(value) == 2 and is_name(value[0]) and value[1] in ("number", "text")


def are_unlike(names):
    """Whether no name stands twice."""
    return len(set(names)) == len(names)


def is_columns(value):
    """Whether anything is columns: at most eight pairs of unlike names and kinds."""
    if not isinstance(value, tuple) or len(value) > MOST_COLUMNS:
        return False
    return all(_is_column(column) for column in value) and are_unlike([column[0] for column in value])


def _is_sign(value):
    """Whether anything is the sign of a row."""
    return is_number(value, -1, 1) and value != 0


def _fits(column, value):
    """Whether a value may stand in this column."""
    return kind_of(value) in ("none", column[1])


def is_bare_row(value):
    """Whether anything is a row of some columns or other, at whatever time."""
    if not isinstance(value, tuple) or len(value) != 3:
        return False
    time, sign, values = value
    if not is_from(time, 0) or not _is_sign(sign) or not isinstance(values, tuple):
        return False
    return all(is_value(member) for member in values)


def is_row(columns, value):
    """Whether anything is a row of these columns."""
    if not is_bare_row(value) or value[0] > LAST_TIME or len(value[2]) != len(columns):
        return False
    return all(_fits(column, member) for column, member in zip(columns, value[2]))


def places_in(columns, names):
    """The places in the columns of those with these names, in the order of the names."""
    there = [column[0] for column in columns]
    return tuple([there.index(name) for name in names])
