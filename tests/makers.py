"""What several tests make: right expressions and values in great numbers, and values of any kind."""

import random

COLUMNS = (("user", "text"), ("price", "number"), ("town", "text"), ("n", "number"))
NUMBERS = (None, 0, 1, -1, 2, 3, -7, 10, 999999999, -999999999)
TEXTS = (None, "", "a", "ann", "bob", "a_B-1 ", "abcdefgh", "abcdefghijkl", " ", "-")

NUMBER_WORDS = ("plus", "less", "times", "is", "below", "and", "or", "not", "if")


def number_column(columns):
    return [name for name, kind in columns if kind == "number"]


def text_column(columns):
    return [name for name, kind in columns if kind == "text"]


def leaf(draw, columns, kind):
    names = number_column(columns) if kind == "number" else text_column(columns)
    if names and draw.random() < 0.6:
        return ("column", draw.choice(names))
    return ("value", draw.choice(NUMBERS if kind == "number" else TEXTS))


def an_expression(draw, columns, kind, parts):
    """A right expression of this kind (or "none") over the columns, of about so many parts at most."""
    if parts < 2:
        return leaf(draw, columns, kind)
    if kind == "text":
        word = draw.choice(("joined", "joined", "if"))
    else:
        word = draw.choice(NUMBER_WORDS)
    if word == "not":
        return (word, an_expression(draw, columns, "number", parts - 1))
    if word == "if":
        return (word, an_expression(draw, columns, "number", parts // 3),
                an_expression(draw, columns, kind, parts // 3), an_expression(draw, columns, kind, parts // 3))
    inner = kind
    if word in ("is", "below"):
        inner = draw.choice(("number", "text"))
    return (word, an_expression(draw, columns, inner, parts // 2), an_expression(draw, columns, inner, parts // 2))


def values_for(draw, columns):
    """Values for a row of the columns."""
    return tuple(draw.choice(NUMBERS if kind == "number" else TEXTS) for _, kind in columns)


def deep(word, depth):
    """An expression of "not" or "plus" in which so many parts stand within one another."""
    e = ("column", "price")
    for _ in range(depth - 1):
        e = ("not", e) if word == "not" else (word, e, ("value", 1))
    return e


ANYTHING = (
    None, True, False, 0, 1, -1, 10 ** 59, -10 ** 59, "", "a", "out", "abcdefghi", "\t\n", "~" * 200, (), [], {}, (None,),
    [1], ("a",), ("a", "b"), {"a": 1}, {(): []}, ("column", "a"), ["column", "a"], ("column", ["a"]), ("value", True),
    ("value", [1]), ("value", 1.5 > 1), ((),), [()], ("plus", 1), ("not",), (["not"], 1), ({}, {}), (("a", "text"),),
    (("a", "text"), ("a", "number")), ("source", ()), ("source", []), ("keep", "a", ("value", 1)), ("mark", 5),
    ("mark", True), ("row", 1, 1, ()), ((("mark", 5),),), "even", ("even", 0), ("even", 10), ("sliding", 10, 0),
)


def within(depth, inner=None):
    """Something in which so many tuples, lists and dicts stand within one another."""
    value = inner
    for k in range(depth):
        value = ((value,), [value], {"a": value})[k % 3]
    return value


def exchanged(value, with_what):
    """All values that come of one by exchanging one thing in it, however deep, for what with_what tells of it."""
    found = list(with_what(value))
    if isinstance(value, tuple):
        for at, member in enumerate(value):
            found.extend(value[:at] + (other,) + value[at + 1:] for other in exchanged(member, with_what))
    return found


def a_draw(seed):
    """A source of chance that is the same in each run."""
    return random.Random(seed)


# Columns of few names, so that steps often go together.
TABLES = (
    (("a", "text"), ("n", "number")), (("a", "text"), ("n", "number"), ("b", "text")), (("n", "number"),), (("a", "text"),),
    (("a", "text"), ("m", "number")), (("m", "number"), ("a", "text")), (),
)


def a_window(draw):
    return draw.choice((("even", draw.choice((1, 3, 5, 10))), ("sliding", draw.choice((4, 6, 10)), draw.choice((2, 3, 7, 12))),
                        ("session", draw.choice((1, 2, 4, 7)))))


def told_columns(draw, columns, most):
    """Names and expressions for columns of a make."""
    names = draw.sample(("a", "n", "b", "m"), draw.randint(0, most))
    return tuple((name, an_expression(draw, columns, "text" if name in ("a", "b") else "number", draw.choice((1, 1, 2, 4))))
                 for name in names)


def a_step(draw, known):
    """A step, perhaps a wrong one, over steps whose columns are known."""
    of, other = draw.choice(sorted(known)), draw.choice(sorted(known))
    if draw.random() < 0.5:
        of = list(known)[-1]
    word = draw.choice(("keep", "keep", "keep", "make", "make", "both", "sum", "sum", "join", "join"))
    columns = known[of]
    names = [name for name, _ in columns]
    if word == "keep":
        return ("keep", of, an_expression(draw, columns, "number", draw.choice((1, 2, 4, 6, 8))))
    if word == "make":
        return ("make", of, told_columns(draw, columns, 3))
    if word == "both":
        return ("both", of, draw.choice([name for name in sorted(known) if known[name] == columns]))
    if word == "sum":
        keys = tuple(draw.sample(names, draw.randint(0, min(2, len(names)))))
        hows = draw.choice((("count", "sum"), ("count", "sum", "least", "greatest")))
        told = []
        for name in draw.sample(("c", "d", "e"), draw.randint(0, 2)):
            how = draw.choice(hows)
            kind = draw.choice(("number", "text")) if how != "sum" else "number"
            told.append((name, how, an_expression(draw, columns, kind, draw.choice((1, 1, 3)))))
        return ("sum", of, keys, a_window(draw), tuple(told))
    keys = tuple(name for name in names if name in [found for found, _ in known[other]] and draw.random() < 0.9)
    return ("join", of, other, keys, draw.choice((0, 2, 5)), draw.choice((0, 1, 4)))


def a_query(draw, steps, judge, columns_of):
    """A right query of so many steps, by the functions of the program that tell what is right."""
    names = draw.sample("abcdefghijklmn", steps)
    pairs, known = [], {}
    while len(pairs) < steps:
        name = names[len(pairs)]
        is_first = len(pairs) == 0 or len(pairs) == 1 and draw.random() < 0.5
        step = ("source", draw.choice(TABLES)) if is_first else a_step(draw, known)
        if judge(tuple(pairs) + ((name, step), ("out", name))) is None:
            pairs.append((name, step))
            known[name] = columns_of(tuple(pairs) + (("out", name),), name)
    return tuple(pairs) + (("out", draw.choice(names[-2:]) if draw.random() < 0.8 else draw.choice(names)),)


def an_input(draw, query, sources_of, columns_of, most=8, last=24):
    """An input of the query: rows and marks in any order, late ones among them."""
    fed = {}
    for name in sources_of(query):
        parts = []
        for _ in range(draw.choice((0, 1, 1, 2, 2, 3))):
            entries, time = [], 0
            for _ in range(draw.randint(0, most)):
                if draw.random() < 0.25:
                    time = min(last, time + draw.randint(0, 8))
                    entries.append(("mark", draw.choice((time, time, time, max(0, time - 3), 0))))
                else:
                    values = tuple(draw.choice((None, 0, 1, 2, 5) if kind == "number" else (None, "", "x", "y"))
                                   for _, kind in columns_of(query, name))
                    sign = draw.choice((1, 1, 1, -1))
                    entries.append(("row", max(0, time + draw.randint(-3, 10)), sign, values))
            parts.append(tuple(entries))
        fed[name] = tuple(parts)
    return fed
