"""The language: queries and expressions as texts, written and read."""

from oncestream.errors import BadText
from oncestream.reading import behind_word, need_end, read_integer, read_number, read_one_of, run_end
from oncestream.values import LETTERS, MOST_LETTERS, MOST_SIGNS, SIGNS

MOST_DIGITS = 9

# How each word with two parts is written between them.
BETWEEN = {
    "plus": "+", "less": "-", "times": "*", "is": "=", "below": "<", "and": "&", "or": "|", "joined": "~",
}

# What stands between the first part and the second one, and the word that it tells.
WORDS = {
    "+ ": "plus", "- ": "less", "* ": "times", "= ": "is", "< ": "below", "& ": "and", "| ": "or", "~ ": "joined",
    "? ": "if",
}


def value_text(value):
    if value is None:
        return "()"
    return f'"{value}"' if isinstance(value, str) else str(value)


def expression_text(e):
    """The text of an expression."""
    if e[0] == "column":
        return e[1]
    if e[0] == "value":
        return value_text(e[1])
    texts = [expression_text(member) for member in e[1:]]
    if e[0] == "not":
        return "!" + texts[0]
    if e[0] == "if":
        return f"({texts[0]} ? {texts[1]} : {texts[2]})"
    return f"({texts[0]} {BETWEEN[e[0]]} {texts[1]})"


def list_text(texts):
    """The members of a list, or what stands in the place of one without members."""
    return ", ".join(texts) if len(texts) > 0 else "-"


def words_text(words):
    """Words and numbers with blanks between them."""
    return " ".join([str(word) for word in words])


def _step_text(step):
    """What stands behind the name of a step."""
    word = step[0]
    if word == "source":
        return "source " + list_text([words_text(column) for column in step[1]])
    if word == "keep":
        return f"keep {step[1]} where {expression_text(step[2])}"
    if word == "make":
        told = [f"{name} = {expression_text(e)}" for name, e in step[2]]
        return f"make {step[1]} with {list_text(told)}"
    if word == "both":
        return words_text(step)
    if word == "sum":
        told = [f"{name} = {how} {expression_text(e)}" for name, how, e in step[4]]
        return f"sum {step[1]} by {list_text(step[2])} in {words_text(step[3])} with {list_text(told)}"
    return f"join {step[1]} {step[2]} by {list_text(step[3])} back {step[4]} ahead {step[5]}"


def query_text(query):
    """The text of a query, a line for each pair."""
    lines = [f"{name}: {_step_text(step)}" for name, step in query[:-1]]
    return "\n".join(lines + ["out " + query[-1][1]])


def read_name(text, at):
    end = run_end(text, at, LETTERS, MOST_LETTERS)
    if end == at:
        raise BadText(at)
    return text[at:end], end


def _read_number(text, at):
    """An integer from 0 on."""
    return read_number(text, at, MOST_DIGITS)


def read_quoted(text, at):
    """The text of a value, of which the first quote has been read."""
    end = run_end(text, at, SIGNS, MOST_SIGNS)
    return text[at:end], behind_word(text, end, '"')


def _read_brackets(text, at):
    """An expression in brackets, of which the first one has been read."""
    if text[at:at + 1] == ")":
        return ("value", None), at + 1
    one, at = _read_part(text, at)
    between, at = read_one_of(text, behind_word(text, at, " "), list(WORDS))
    other, at = _read_part(text, at)
    if WORDS[between] != "if":
        return (WORDS[between], one, other), behind_word(text, at, ")")
    third, at = _read_part(text, behind_word(text, at, " : "))
    return ("if", one, other, third), behind_word(text, at, ")")


def _read_part(text, at):
    """An expression."""
    first = text[at:at + 1]
    if first == "(":
        return _read_brackets(text, at + 1)
    if first == "!":
        part, at = _read_part(text, at + 1)
        return ("not", part), at
    if first == '"':
        value, at = read_quoted(text, at + 1)
    elif first == "-" or first.isdigit():
        value, at = read_integer(text, at, MOST_DIGITS)
    else:
        name, at = read_name(text, at)
        return ("column", name), at
    return ("value", value), at


def need_text(text):
    if not isinstance(text, str):
        raise BadText(0)


def read_expression(text):
    """The expression that a text tells; raises BadText if it tells none."""
    need_text(text)
    e, at = _read_part(text, 0)
    need_end(text, at)
    return e


def read_members(text, at, read_one):
    """The members of a list, at least one, of what read_one reads."""
    one, at = read_one(text, at)
    members = [one]
    while text[at:at + 1] == ",":
        one, at = read_one(text, behind_word(text, at, ", "))
        members.append(one)
    return tuple(members), at


def read_list(text, at, read_one):
    """A list of what read_one reads, () for a - in its place."""
    return ((), at + 1) if text[at:at + 1] == "-" else read_members(text, at, read_one)


def _read_column(text, at):
    name, at = read_name(text, at)
    kind, at = read_one_of(text, behind_word(text, at, " "), ["number", "text"])
    return (name, kind), at


def _read_made(text, at):
    """A column of a make."""
    name, at = read_name(text, at)
    e, at = _read_part(text, behind_word(text, at, " = "))
    return (name, e), at


def _read_summed(text, at):
    """A column of a sum."""
    name, at = read_name(text, at)
    how, at = read_one_of(text, behind_word(text, at, " = "), ["count ", "sum ", "least ", "greatest "])
    e, at = _read_part(text, at)
    return (name, how.strip(), e), at


def _read_window(text, at):
    word, at = read_one_of(text, at, ["even ", "sliding ", "session "])
    number, at = _read_number(text, at)
    if word != "sliding ":
        return (word.strip(), number), at
    step, at = _read_number(text, behind_word(text, at, " "))
    return ("sliding", number, step), at


def _read_source(text, at):
    columns, at = read_list(text, at, _read_column)
    return ("source", columns), at


def _read_keep(text, at):
    of, at = read_name(text, at)
    e, at = _read_part(text, behind_word(text, at, " where "))
    return ("keep", of, e), at


def _read_make(text, at):
    of, at = read_name(text, at)
    told, at = read_list(text, behind_word(text, at, " with "), _read_made)
    return ("make", of, told), at


def _read_both(text, at):
    left, at = read_name(text, at)
    right, at = read_name(text, behind_word(text, at, " "))
    return ("both", left, right), at


def _read_sum(text, at):
    of, at = read_name(text, at)
    keys, at = read_list(text, behind_word(text, at, " by "), read_name)
    window, at = _read_window(text, behind_word(text, at, " in "))
    told, at = read_list(text, behind_word(text, at, " with "), _read_summed)
    return ("sum", of, keys, window, told), at


def _read_join(text, at):
    left, at = read_name(text, at)
    right, at = read_name(text, behind_word(text, at, " "))
    keys, at = read_list(text, behind_word(text, at, " by "), read_name)
    back, at = _read_number(text, behind_word(text, at, " back "))
    ahead, at = _read_number(text, behind_word(text, at, " ahead "))
    return ("join", left, right, keys, back, ahead), at


STEPS = {
    "source ": _read_source, "keep ": _read_keep, "make ": _read_make, "both ": _read_both, "sum ": _read_sum,
    "join ": _read_join,
}


def _read_step(text, at):
    """What stands behind the name of a step, its line's end too."""
    word, at = read_one_of(text, at, list(STEPS))
    read = STEPS[word]
    step, at = read(text, at)
    return step, behind_word(text, at, "\n")


def read_query(text):
    """The query that a text tells; raises BadText if it tells none."""
    need_text(text)
    pairs = []
    name, at = read_name(text, 0)
    # A step may be called "out" here: only what stands behind the name tells the last line.
    while name != "out" or text[at:at + 1] != " ":
        step, at = _read_step(text, behind_word(text, at, ": "))
        pairs.append((name, step))
        name, at = read_name(text, at)
    of, at = read_name(text, at + 1)
    need_end(text, at)
    return tuple(pairs) + (("out", of),)
