"""The language as a grammar, and a recognizer for any grammar: it tells how far a text can still be read."""

LETTER = frozenset("abcdefghijklmnopqrstuvwxyz")
DIGIT = frozenset("0123456789")
ABOVE = DIGIT - {"0"}
SIGN = LETTER | frozenset("ABCDEFGHIJKLMNOPQRSTUVWXYZ0123456789 -_")


def up_to(rules, name, member, last, most):
    """Rules for at least one and at most so many of a member, and last behind them."""
    for k in range(1, most + 1):
        rules[f"{name}{k}"] = [(member,) + last] + ([(member, f"{name}{k - 1}")] if k > 1 else [])
    return f"{name}{most}"


def listed(rules, name, member):
    """Rules for a list of members."""
    rules[name] = [("-",), (f"{name}+",)]
    rules[f"{name}+"] = [member, member + (", ", f"{name}+")]
    return name


def the_rules():
    """A dict from names to lists of tuples of names, sets of signs, and texts as they stand."""
    rules = {}
    name = up_to(rules, "name", LETTER, (), 8)
    digits = up_to(rules, "digits", DIGIT, (), 8)
    rules["above"] = [(ABOVE,), (ABOVE, digits)]
    rules["number"] = [("0",), ("above",)]
    signs = up_to(rules, "signs", SIGN, ('"',), 12)
    rules["part"] = [(name,), ("number",), ("-", "above"), ('"', signs), ('"', '"'), ("()",), ("!", "part"),
                     ("(", "part", " ", frozenset("+-*=<&|~"), " ", "part", ")"),
                     ("(", "part", " ? ", "part", " : ", "part", ")")]
    rules["column"] = [(name, " number"), (name, " text")]
    columns, keys = listed(rules, "columns", ("column",)), listed(rules, "keys", (name,))
    made = listed(rules, "made", (name, " = ", "part"))
    rules["how"] = [("count",), ("sum",), ("least",), ("greatest",)]
    summed = listed(rules, "summed", (name, " = ", "how", " ", "part"))
    rules["window"] = [("even ", "number"), ("session ", "number"), ("sliding ", "number", " ", "number")]
    rules["step"] = [("source ", columns), ("keep ", name, " where ", "part"), ("make ", name, " with ", made),
                     ("both ", name, " ", name),
                     ("sum ", name, " by ", keys, " in ", "window", " with ", summed),
                     ("join ", name, " ", name, " by ", keys, " back ", "number", " ahead ", "number")]
    rules["query"] = [("out ", name), (name, ": ", "step", "\n", "query")]
    add_scripts(rules, name, signs)
    return rules


def add_scripts(rules, name, signs):
    """Rules for rows, events and scripts; numbers have at most nine digits here."""
    rules["value"] = [("number",), ("-", "above"), ('"', signs), ('"', '"'), ("()",)]
    rules["row"] = [("number", " ", frozenset("+-"), " ", listed(rules, "values", ("value",)))]
    rules["entry"] = [("row ", "row"), ("mark ", "number")]
    workers = listed(rules, "workers", (name, " ", "number"))
    rules["inner"] = [("feed ", name, " ", "number", " ", "entry"), ("read ", "number"), ("move ", "number"), ("begin",),
                      ("hear ", "number"), ("fall",), ("workers ", workers)]
    rules["event"] = [("inner",), ("again",), ("lose ", "number"), ("double ", "number"), ("stop",),
                      ("torn ", "number", " ", "inner")]
    rules["lines"] = [("event",), ("event", "\n", "lines")]
    rules["script"] = [(), ("lines",)]


def by_signs(rules):
    """The rules with each text that stands in them taken apart: names are texts, signs are sets."""
    found = {}
    for name, tuples in rules.items():
        found[name] = [tuple(inner for symbol in symbols
                             for inner in ([symbol] if isinstance(symbol, frozenset) or symbol in rules
                                           else [frozenset(sign) for sign in symbol]))
                       for symbols in tuples]
    return found


RULES = by_signs(the_rules())


def closed(items, sets):
    """The items (name, symbols, place in them, where begun) with all that follow of them."""
    here, waiting, done = len(sets), list(items), set(items)
    while waiting:
        name, symbols, at, begun = waiting.pop()
        if at == len(symbols) and begun == here:
            # Only what one begins with can be empty here: nothing waits for it.
            more = []
        elif at == len(symbols):
            more = [(other, inner, place + 1, start) for other, inner, place, start in sets[begun]
                    if place < len(inner) and inner[place] == name]
        elif isinstance(symbols[at], str):
            more = [(symbols[at], inner, 0, here) for inner in RULES[symbols[at]]]
        else:
            more = []
        for item in more:
            if item not in done:
                done.add(item)
                waiting.append(item)
    return done


def begun(start):
    return [closed([(start, symbols, 0, 0) for symbols in RULES[start]], [])]


def gone_on(sets, sign):
    """The items behind one more sign."""
    items = [(name, symbols, at + 1, start) for name, symbols, at, start in sets[-1]
             if at < len(symbols) and isinstance(symbols[at], frozenset) and sign in symbols[at]]
    return closed(items, sets)


def is_whole(sets, start):
    return any(name == start and at == len(symbols) and where == 0 for name, symbols, at, where in sets[-1])


def sets_of(start, text):
    """The sets behind the beginnings of text, as far as they can be read."""
    sets = begun(start)
    for sign in text:
        items = gone_on(sets, sign)
        if not items:
            break
        sets.append(items)
    return sets


def place_of(start, sets, text):
    """None if text can be read, else the place that is to be told; sets stand for a beginning of it."""
    sets = list(sets)
    for sign in text[len(sets) - 1:]:
        items = gone_on(sets, sign)
        if not items:
            return len(sets) - 1
        sets.append(items)
    return None if is_whole(sets, start) else len(text)
