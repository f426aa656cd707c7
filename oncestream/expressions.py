"""Expressions: their form, kinds and worths, and how they are made shorter and put into one another."""

from oncestream.values import is_name, is_value, kept_text, kind_of, rank

MOST_PARTS = 40

# How many things stand behind each word.
SIZES = {
    "column": 1, "value": 1, "plus": 2, "less": 2, "times": 2, "is": 2, "below": 2,
    "and": 2, "or": 2, "not": 1, "if": 3, "joined": 2,
}

# The kind that is wanted of all parts behind a word; the other words want something of some of theirs.
WANTED = {
    "plus": "number", "less": "number", "times": "number", "and": "number", "or": "number", "not": "number",
    "joined": "text",
}


def _members(e):
    """The expressions that stand in an expression, in order."""
    return () if e[0] in ("column", "value") else e[1:]


def _is_part(value):
    """Whether anything has the form of an expression, whatever stands where expressions should."""
    if not isinstance(value, tuple) or len(value) == 0 or not isinstance(value[0], str):
        return False
    if value[0] not in SIZES or len(value) != SIZES[value[0]] + 1:
        return False
    if value[0] == "column":
        return is_name(value[1])
    return value[0] != "value" or is_value(value[1])


def is_expression(value):
    """Whether anything is an expression of at most forty parts."""
    waiting, many = [value], 0
    while waiting:
        part = waiting.pop()
        many += 1
        # To stop here bounds the work: a value may hold one tuple in very many places.
        if many > MOST_PARTS or not _is_part(part):
            return False
        waiting.extend(_members(part))
    return True


def _all_parts(e):
    """All parts of an expression, in no told order."""
    found, waiting = [], [e]
    while waiting:
        part = waiting.pop()
        found.append(part)
        waiting.extend(_members(part))
    return found


def columns_in(e):
    """The ascending names of the columns of an expression."""
    return tuple(sorted(set([part[1] for part in _all_parts(e) if part[0] == "column"])))


def parts_of(e):
    """How many parts an expression has."""
    return len(_all_parts(e))


def count_ands(e):
    """How many parts of an expression are "and"."""
    return len([part for part in _all_parts(e) if part[0] == "and"])


def _kind(kinds, e):
    """The kind of an expression, given the kinds of the columns by their names."""
    if e[0] == "column":
        return kinds[e[1]]
    if e[0] == "value":
        return kind_of(e[1])
    if e[0] == "joined":
        return "text"
    if e[0] != "if":
        return "number"
    kind = _kind(kinds, e[2])
    return _kind(kinds, e[3]) if kind == "none" else kind


def kind_in(columns, e):
    """The kind of an expression that fits the columns."""
    return _kind(dict(columns), e)


def _walked(e):
    """All parts as (path, what it stands in, part): from the whole to e, its parts, then f, then g."""
    found, waiting = [], [((), None, e)]
    while waiting:
        path, above, part = waiting.pop()
        found.append((path, above, part))
        within = [(path + (number,), part, member) for number, member in enumerate(_members(part), 1)]
        waiting.extend(within[::-1])
    return found


def _wanted(kinds, above, number):
    """The kind that is wanted of the part with this number, "none" if any will do."""
    if above[0] in WANTED:
        return WANTED[above[0]]
    if above[0] == "if" and number == 1:
        return "number"
    # Of two parts that must be alike the latter one is told: it is to be as the one ahead of it.
    return _kind(kinds, above[number - 1]) if number == len(above) - 1 else "none"


def _is_right_kind(kinds, above, number):
    """Whether the part with this number has the kind that is wanted of it."""
    kind, wanted = _kind(kinds, above[number]), _wanted(kinds, above, number)
    return kind == wanted or "none" in (kind, wanted)


def judge_expression(columns, value):
    """None if anything is an expression that fits the columns, else its first fault."""
    if not is_expression(value):
        return ("form",)
    kinds, walked = dict(columns), _walked(value)
    for path, _, part in walked:
        if part[0] == "column" and part[1] not in kinds:
            return ("column", path)
    for path, above, _ in walked:
        if above is not None and not _is_right_kind(kinds, above, path[-1]):
            return ("kind", path)
    return None


def _is_yes(value):
    """Whether a worth is an integer other than 0."""
    return isinstance(value, int) and value != 0


def _outcome(word, worths):
    """The worth of an expression with this word, of the worths that stand in it."""
    if word == "is":
        return int(worths[0] == worths[1])
    if word == "if":
        return worths[1] if _is_yes(worths[0]) else worths[2]
    if None in worths:
        return None
    one, other = worths[0], worths[-1]
    if word == "plus":
        return one + other
    if word == "less":
        return one - other
    if word == "times":
        return one * other
    if word == "below":
        return int(rank(one) < rank(other))
    if word == "and":
        return int(one != 0 and other != 0)
    if word == "or":
        return int(one != 0 or other != 0)
    return int(one == 0) if word == "not" else kept_text(one + other)


def _worth_at(places, e):
    """The function that tells the worth of an expression for values, those of the columns at these places."""
    if e[0] == "column":
        place = places[e[1]]
        return lambda values: values[place]
    if e[0] == "value":
        return lambda values: e[1]
    members = [_worth_at(places, member) for member in e[1:]]
    return lambda values: _outcome(e[0], [told(values) for told in members])


def worth_by(columns, e):
    """The function that tells the worth of an expression for the values of a row of the columns."""
    return _worth_at({column[0]: place for place, column in enumerate(columns)}, e)


def worth(columns, e, values):
    """The worth of an expression for the values of a row of the columns."""
    told = worth_by(columns, e)
    return told(values)


def holding(columns, e):
    """The function that tells whether the worth of an expression is an integer other than 0."""
    told = worth_by(columns, e)
    return lambda values: _is_yes(told(values))


def holds(columns, e, values):
    """Whether the worth of an expression is an integer other than 0."""
    return _is_yes(worth(columns, e, values))


def _has_no_kind(e):
    """Whether an expression is None in whatever way it is chosen."""
    if e[0] == "if":
        return _has_no_kind(e[2]) and _has_no_kind(e[3])
    return e == ("value", None)


def _fold(e):
    """An expression folded, whether no column is left in it, and, if so, its worth."""
    if e[0] == "column":
        return e, False, None
    if e[0] == "value":
        return e, True, e[1]
    members = [_fold(member) for member in e[1:]]
    is_free = all(member[1] for member in members)
    if is_free:
        value = _outcome(e[0], [member[2] for member in members])
        if value is not None:
            return ("value", value), True, value
    if e[0] == "if" and members[0][1]:
        taken = members[1] if _is_yes(members[0][2]) else members[2]
        if not _has_no_kind(taken[0]):
            return taken
    return (e[0],) + tuple(member[0] for member in members), is_free, None


def folded(e):
    """An expression in which all that hangs on no column is reckoned already."""
    return _fold(e)[0]


def put_in(e, given):
    """An expression with each column exchanged for what is given for its name."""
    if e[0] == "column":
        return given[e[1]]
    if e[0] == "value":
        return e
    return (e[0],) + tuple([put_in(member, given) for member in e[1:]])
