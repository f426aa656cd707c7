"""Queries: what they are made of, the columns of their steps, and what can be wrong with them."""

from oncestream.errors import BadQuery
from oncestream.expressions import is_expression, judge_expression, kind_in
from oncestream.values import MOST_COLUMNS, are_unlike, is_columns, is_name, is_number

MOST_STEPS = 16
MOST_TIME = 1000000
MOST_WINDOWS = 50


def made_of(step):
    """The names of the steps that a step is made of, in order."""
    if step[0] == "source":
        return ()
    return (step[1], step[2]) if step[0] in ("both", "join") else (step[1],)


def keys_of(step):
    """The names of the keys of a sum, of its two halves, or of a join."""
    return step[3] if step[0] == "join" else step[2]


def told_expressions(step):
    """The expressions that stand in a step, in order."""
    if step[0] == "keep":
        return (step[2],)
    return tuple([told[-1] for told in step[-1]]) if step[0] in ("make", "sum", "gather", "finish") else ()


def _kind_told(columns, e):
    """The kind of a column made of an expression: one that is None in all rows is a number."""
    kind = kind_in(columns, e)
    return "number" if kind == "none" else kind


def _sum_column(columns, told):
    """The column of one sum over rows of these columns."""
    name, how, e = told
    return (name, "number" if how in ("count", "sum") else _kind_told(columns, e))


def columns_made(step, known):
    """The columns of a step, given those of all steps ahead of it by their names."""
    word = step[0]
    if word == "source":
        return step[1]
    columns = known[step[1]]
    if word == "make":
        return tuple([(name, _kind_told(columns, e)) for name, e in step[2]])
    if word in ("sum", "gather"):
        kinds = dict(columns)
        keys = tuple([(key, kinds[key]) for key in step[2]])
        return keys + (("from", "number"), ("to", "number")) + tuple([_sum_column(columns, told) for told in step[4]])
    if word == "join":
        return columns + tuple([column for column in known[step[2]] if column[0] not in step[3]])
    return columns


def all_columns(query):
    """The columns of all steps by their names, in the order of the query; "out" has those of its step."""
    known = {}
    for name, step in query[:-1]:
        known[name] = columns_made(step, known)
    known["out"] = known[query[-1][1]]
    return known


def columns_of(query, name):
    """The columns of a step."""
    return all_columns(query)[name]


def step_of(query, name):
    """The step with this name."""
    return dict(query)[name]


def steps_ahead(query, name):
    """The names of the steps that a step is made of, in order."""
    return (query[-1][1],) if name == "out" else made_of(step_of(query, name))


def steps_behind(query, name):
    """The names of the steps that are made of a step, in the order of the query."""
    return tuple([other for other, step in query[:-1] if name in made_of(step)])


def sources_of(query):
    """The names of all sources, in the order of the query."""
    return tuple([name for name, step in query[:-1] if step[0] == "source"])


def out_of(query):
    """The name of the step whose rows the query gives out."""
    return query[-1][1]


def wanted_of(query):
    """The names of the steps on which what is given out hangs, in the order of the query."""
    wanted = {out_of(query): True}
    for name, step in query[-2::-1]:
        if name in wanted:
            wanted.update({of: True for of in made_of(step)})
    return tuple([pair[0] for pair in query[:-1] if pair[0] in wanted])


def _is_list(value, is_one):
    """Whether anything is a tuple whose members are all such."""
    return isinstance(value, tuple) and all(is_one(member) for member in value)


def _is_source(step):
    return len(step) == 2 and is_columns(step[1])


def _is_keep(step):
    return len(step) == 3 and is_name(step[1]) and is_expression(step[2])


def _is_made(value):
    """Whether anything tells a column of a make: a name and an expression."""
    return isinstance(value, tuple) and len(value) == 2 and is_name(value[0]) and is_expression(value[1])


def _is_make(step):
    return len(step) == 3 and is_name(step[1]) and _is_list(step[2], _is_made)


def _is_both(step):
    return len(step) == 3 and is_name(step[1]) and is_name(step[2])


def _is_window(value):
    """Whether anything is a window with numbers within their bounds."""
    if not isinstance(value, tuple) or not all(is_number(number, 1, MOST_TIME) for number in value[1:]):
        return False
    if len(value) == 3:
        return value[0] == "sliding" and value[1] <= MOST_WINDOWS * value[2]
    return len(value) == 2 and value[0] in ("even", "session")


def _is_summed(value):
    """Whether anything tells a column of a sum: a name, a how and an expression."""
    if not isinstance(value, tuple) or len(value) != 3:
        return False
    return is_name(value[0]) and value[1] in ("count", "sum", "least", "greatest") and is_expression(value[2])


def _is_sum(step):
    if len(step) != 5 or not is_name(step[1]) or not _is_list(step[2], is_name):
        return False
    return _is_window(step[3]) and _is_list(step[4], _is_summed)


def _is_join(step):
    if len(step) != 6 or not is_name(step[1]) or not is_name(step[2]) or not _is_list(step[3], is_name):
        return False
    return is_number(step[4], 0, MOST_TIME) and is_number(step[5], 0, MOST_TIME)


FORMS = {
    "source": _is_source, "keep": _is_keep, "make": _is_make, "both": _is_both, "sum": _is_sum, "join": _is_join,
}


def _is_pair(value):
    """Whether anything is a pair of a name and a step of a right form."""
    if not isinstance(value, tuple) or len(value) != 2 or not is_name(value[0]):
        return False
    step = value[1]
    if not isinstance(step, tuple) or len(step) == 0 or not isinstance(step[0], str) or step[0] not in FORMS:
        return False
    is_form = FORMS[step[0]]
    return is_form(step)


def _has_bad_key(step, known):
    """Whether a key of a sum or a join is told twice, or is no column, or one of two kinds."""
    if step[0] not in ("sum", "join"):
        return False
    keys = keys_of(step)
    if not are_unlike(keys):
        return True
    tables = [dict(known[of]) for of in made_of(step)]
    if not all(key in table for key in keys for table in tables):
        return True
    return not all(table[key] == tables[0][key] for key in keys for table in tables)


def _has_bad_kind(step, known):
    """Whether an expression does not fit what it is over, or is a text where none may be."""
    expressions = told_expressions(step)
    if len(expressions) == 0:
        return False
    columns = known[step[1]]
    if not all(judge_expression(columns, e) is None for e in expressions):
        return True
    if step[0] == "keep":
        return kind_in(columns, step[2]) == "text"
    return step[0] == "sum" and any(told[1] == "sum" and kind_in(columns, told[2]) == "text" for told in step[4])


def _has_bad_columns(step, known):
    """Whether the columns of a step would be too many or have one name twice, or do not go together."""
    if step[0] == "both":
        return known[step[1]] != known[step[2]]
    columns = columns_made(step, known)
    return len(columns) > MOST_COLUMNS or not are_unlike([column[0] for column in columns])


def _pair_fault(number, pair, known):
    """The first word for what is wrong with a pair ahead of the last one, None if nothing is."""
    if number >= MOST_STEPS or not _is_pair(pair):
        return "form"
    name, step = pair
    if name in known or name == "out":
        return "name"
    if not all(of in known for of in made_of(step)):
        return "of"
    if _has_bad_key(step, known):
        return "key"
    if _has_bad_kind(step, known):
        return "kind"
    return "columns" if _has_bad_columns(step, known) else None


def _last_fault(pair, known):
    """The word for what is wrong with the last pair, None if nothing is."""
    if not isinstance(pair, tuple) or len(pair) != 2 or pair[0] != "out" or not is_name(pair[1]):
        return "form"
    return None if pair[1] in known else "of"


def judge_query(value):
    """None if anything is a query, else the number of the first pair with a fault, and a word for it."""
    if not isinstance(value, tuple) or len(value) == 0:
        return (0, "form")
    known = {}
    for number, pair in enumerate(value[:-1]):
        word = _pair_fault(number, pair, known)
        if word is not None:
            return (number, word)
        known[pair[0]] = columns_made(pair[1], known)
    word = _last_fault(value[-1], known)
    return None if word is None else (len(value) - 1, word)


def need_query(value):
    """Raises BadQuery unless anything is a query."""
    fault = judge_query(value)
    if fault is not None:
        raise BadQuery(fault[0], fault[1])
