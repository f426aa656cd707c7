import itertools
import unittest

from oncestream.expressions import (
    columns_in, folded, holds, is_expression, judge_expression, kind_in, parts_of, put_in, worth,
)
from oncestream.values import is_value, rank
from tests.makers import ANYTHING, COLUMNS, a_draw, an_expression, deep, exchanged, leaf, values_for, within

ARITIES = {"plus": 2, "less": 2, "times": 2, "is": 2, "below": 2, "and": 2, "or": 2, "not": 1, "if": 3, "joined": 2}
KINDS = dict(COLUMNS)
A, B = ("column", "price"), ("column", "user")
ONE, TEXT, NONE = ("value", 1), ("value", "x"), ("value", None)


def parts_with_paths(e, path=()):
    """All parts with their paths, straight from the words of the document."""
    found = [(path, e)]
    if e[0] in ARITIES:
        for number in range(1, len(e)):
            found += parts_with_paths(e[number], path + (number,))
    return found


def plain_kind(e):
    if e[0] == "column":
        return KINDS[e[1]]
    if e[0] == "value":
        return {type(None): "none", int: "number", str: "text"}[type(e[1])]
    if e[0] == "if":
        return plain_kind(e[3]) if plain_kind(e[2]) == "none" else plain_kind(e[2])
    return "text" if e[0] == "joined" else "number"


def wrong_kinds(e):
    """The paths of all parts that have not the kind that is wanted of them; the least one is the first one."""
    found = []
    for path, part in parts_with_paths(e):
        kinds = [None] + [plain_kind(member) for member in part[1:]] if part[0] in ARITIES else []
        wanted = "text" if part[0] == "joined" else "number"
        if part[0] in ("plus", "less", "times", "and", "or", "not", "joined"):
            found += [path + (k,) for k in range(1, len(kinds)) if kinds[k] not in (wanted, "none")]
        if part[0] in ("is", "below") and {kinds[1], kinds[2]} == {"number", "text"}:
            found.append(path + (2,))
        if part[0] == "if" and kinds[1] == "text":
            found.append(path + (1,))
        if part[0] == "if" and {kinds[2], kinds[3]} == {"number", "text"}:
            found.append(path + (3,))
    return found


def plain_judge(e):
    """What judge_expression tells of what has the form of an expression."""
    parts = parts_with_paths(e)
    if len(parts) > 40:
        return ("form",)
    unknown = [path for path, part in parts if part[0] == "column" and part[1] not in KINDS]
    if unknown:
        return ("column", min(unknown))
    wrong = wrong_kinds(e)
    return ("kind", min(wrong)) if wrong else None


def plain_worth(e, values):
    if e[0] == "column":
        return values[[name for name, _ in COLUMNS].index(e[1])]
    if e[0] == "value":
        return e[1]
    found = [plain_worth(member, values) for member in e[1:]]
    if e[0] == "is":
        return 1 if found[0] == found[1] else 0
    if e[0] == "if":
        return found[1] if found[0] is not None and found[0] != 0 else found[2]
    if any(value is None for value in found):
        return None
    return {
        "plus": lambda: found[0] + found[1], "less": lambda: found[0] - found[1], "times": lambda: found[0] * found[1],
        "below": lambda: 1 if rank(found[0]) < rank(found[1]) else 0,
        "and": lambda: 0 if 0 in found else 1, "or": lambda: 0 if found == [0, 0] else 1,
        "not": lambda: 1 if found == [0] else 0, "joined": lambda: (found[0] + found[1])[:12],
    }[e[0]]()


def has_no_kind(e):
    return e == NONE or e[0] == "if" and has_no_kind(e[2]) and has_no_kind(e[3])


def is_free(e):
    return not any(part[0] == "column" for _, part in parts_with_paths(e))


def one_fold(part):
    """What one step of folding makes of this part itself, None if it makes nothing."""
    if part[0] not in ARITIES:
        return None
    if is_free(part) and plain_worth(part, ()) is not None:
        return ("value", plain_worth(part, ()))
    if part[0] == "if" and is_free(part[1]):
        taken = part[2] if plain_worth(part[1], ()) not in (None, 0) else part[3]
        return None if has_no_kind(taken) else taken
    return None


def exchanged_at(e, path, part):
    if path == ():
        return part
    return e[:path[0]] + (exchanged_at(e[path[0]], path[1:], part),) + e[path[0] + 1:]


def folded_in_some_order(draw, e):
    """What comes of folding one part after another, drawn by chance."""
    while True:
        steps = [(path, one_fold(part)) for path, part in parts_with_paths(e)]
        steps = [step for step in steps if step[1] is not None]
        if not steps:
            return e
        e = exchanged_at(e, *draw.choice(steps))


def loose_expression(draw, parts):
    """Something of the form of an expression, whose columns and kinds may be wrong."""
    if parts < 2 or draw.random() < 0.1:
        if draw.random() < 0.05:
            return ("column", "other")
        return leaf(draw, COLUMNS, draw.choice(("number", "text")))
    word = draw.choice(sorted(ARITIES))
    return (word,) + tuple(loose_expression(draw, parts // ARITIES[word]) for _ in range(ARITIES[word]))


def right_expressions(seed, many, parts=20):
    draw = a_draw(seed)
    for _ in range(many):
        kind = draw.choice(("number", "text"))
        e = an_expression(draw, COLUMNS, kind, draw.choice((1, 2, 3, 6, parts)))
        if is_expression(e):
            yield draw, e


class Forms(unittest.TestCase):
    def test_right_ones(self):
        for e in (A, B, ONE, TEXT, NONE, ("column", "from"), ("value", 10 ** 59), ("value", ""), ("column", "abcdefgh")):
            self.assertIs(is_expression(e), True, e)
        for word, arity in ARITIES.items():
            self.assertIs(is_expression((word,) + (A,) * arity), True)

    def test_words_with_too_few_or_too_many_parts(self):
        for word, arity in list(ARITIES.items()) + [("column", 1), ("value", 1)]:
            inner = {"column": "a", "value": 5}.get(word, A)
            for many in range(6):
                e = (word,) + (inner,) * many
                self.assertIs(is_expression(e), many == arity, e)
                self.assertIs(is_expression(("not", e)), many == arity, e)

    def test_wrong_ones(self):
        for value in ((), [], None, 5, "column", ("Column", "a"), ("minus", A, A), ("column", "a", "b"), ["column", "a"],
                      ("column", ""), ("column", "aB"), ("column", "abcdefghi"), ("column", None), ("column", ("a",)),
                      ("value", True), ("value", (1,)), ("value", "a.b"), ("value", "a" * 13), ("plus", A), ("plus", A, 1),
                      ("plus", [A, A]), ["plus", A, A], ("plus", A, ["value", 1]), (None, A), (["plus"], A, A),
                      ((), A, A), ("value",), ("column",), ("values", 1), ({}, 1)):
            self.assertIs(is_expression(value), False, value)

    def test_anything(self):
        for value in ANYTHING + (within(30), within(30, A)):
            self.assertIs(is_expression(value), value == ("column", "a") and isinstance(value, tuple), value)
            self.assertIs(is_expression(("not", value)), value == ("column", "a") and isinstance(value, tuple), value)
            awaited = ("column", ()) if value == ("column", "a") and isinstance(value, tuple) else ("form",)
            self.assertEqual(judge_expression(COLUMNS, value), awaited)

    def test_faults_deep_within(self):
        e = ("if", ("and", A, ("not", ("is", B, TEXT))), ("plus", A, ("times", ONE, A)), NONE)
        self.assertIs(is_expression(e), True)
        for wrong in exchanged(e, lambda value: [] if is_value(value) else [list(value), value + (A,), None, ()]):
            self.assertIs(is_expression(wrong), False, wrong)
            self.assertEqual(judge_expression(COLUMNS, wrong), ("form",))

    def test_forty_and_forty_one_parts(self):
        forty, other = deep("plus", 20), deep("not", 40)
        forty = ("not", forty)
        self.assertEqual((parts_of(forty), parts_of(other)), (40, 40))
        for e in (forty, other):
            self.assertIs(is_expression(e), True)
            self.assertIsNone(judge_expression(COLUMNS, e))
            self.assertIs(is_expression(("not", e)), False)
            self.assertEqual(judge_expression(COLUMNS, ("not", e)), ("form",))
        self.assertEqual(judge_expression(COLUMNS, ("plus", ("column", "other"), forty)), ("form",))

    def test_one_tuple_in_very_many_places(self):
        value = A
        for _ in range(29):
            value = ("plus", value, value)
        self.assertIs(is_expression(value), False)

    def test_many_parts_are_no_expression(self):
        for e in (deep("not", 200), deep("plus", 200)):
            self.assertIs(is_expression(e), False)
            self.assertEqual(judge_expression(COLUMNS, e), ("form",))


class Parts(unittest.TestCase):
    def test_columns_in(self):
        self.assertEqual(columns_in(("plus", A, ("if", B, A, ("column", "b")))), ("b", "price", "user"))
        self.assertEqual([columns_in(e) for e in (ONE, A, ("is", ONE, NONE))], [(), ("price",), ()])

    def test_of_many(self):
        for _, e in right_expressions(1, 300):
            parts = parts_with_paths(e)
            self.assertEqual(parts_of(e), len(parts))
            self.assertEqual(columns_in(e), tuple(sorted({part[1] for _, part in parts if part[0] == "column"})))


class Judging(unittest.TestCase):
    def test_kinds_of_each_word(self):
        leaves = {"number": A, "text": B, "none": NONE}
        for word, arity in ARITIES.items():
            for kinds in itertools.product(leaves, repeat=arity):
                e = (word,) + tuple(leaves[kind] for kind in kinds)
                self.assertEqual(judge_expression(COLUMNS, e), plain_judge(e), e)

    def test_told_cases(self):
        for e, awaited in (
            (("plus", B, B), ("kind", (1,))), (("plus", A, B), ("kind", (2,))), (("joined", A, B), ("kind", (1,))),
            (("joined", B, ONE), ("kind", (2,))), (("not", TEXT), ("kind", (1,))), (("is", A, B), ("kind", (2,))),
            (("below", B, A), ("kind", (2,))), (("is", NONE, B), None), (("is", B, NONE), None),
            (("below", NONE, NONE), None), (("if", B, ONE, ONE), ("kind", (1,))), (("if", NONE, ONE, TEXT), ("kind", (3,))),
            (("if", ONE, NONE, TEXT), None), (("if", ONE, TEXT, NONE), None), (("if", ONE, NONE, NONE), None),
            (("plus", ("if", ONE, NONE, TEXT), ONE), ("kind", (1,))), (("joined", ("if", ONE, TEXT, NONE), B), None),
            (("plus", ("if", ONE, NONE, NONE), ONE), None), (("plus", ("is", B, TEXT), ONE), None),
            (("is", ("if", ONE, NONE, NONE), TEXT), None), (("if", ("joined", B, B), TEXT, ONE), ("kind", (1,))),
            (TEXT, None), (NONE, None), (("column", "other"), ("column", ())),
        ):
            self.assertEqual(judge_expression(COLUMNS, e), awaited, e)

    def test_the_first_of_two_faults(self):
        wrong, other = ("plus", B, ONE), ("column", "other")
        for e, awaited in (
            (("and", wrong, wrong), ("kind", (1, 1))), (("and", ONE, wrong), ("kind", (2, 1))),
            (("and", wrong, TEXT), ("kind", (1, 1))), (("and", TEXT, wrong), ("kind", (1,))),
            (("is", ("joined", TEXT, ONE), ("plus", TEXT, ONE)), ("kind", (1, 2))),
            (("is", TEXT, ("plus", TEXT, ONE)), ("kind", (2,))), (("if", ONE, wrong, TEXT), ("kind", (2, 1))),
            (("if", ONE, ("joined", TEXT, ONE), wrong), ("kind", (2, 2))), (("and", wrong, other), ("column", (2,))),
            (("and", ("not", ("plus", other, ONE)), other), ("column", (1, 1, 1))),
            (("plus", ("if", ONE, TEXT, ONE), ONE), ("kind", (1,))),
            (("joined", ("if", ONE, TEXT, ONE), TEXT), ("kind", (1, 3))),
        ):
            self.assertEqual(judge_expression(COLUMNS, e), awaited, e)

    def test_of_many(self):
        draw, seen = a_draw(2), set()
        for _ in range(4000):
            e = loose_expression(draw, draw.choice((2, 4, 8, 16, 64)))
            awaited = plain_judge(e)
            self.assertEqual(judge_expression(COLUMNS, e), awaited, e)
            seen.add(awaited and awaited[0])
        self.assertEqual(seen, {None, "form", "column", "kind"})

    def test_kinds(self):
        for _, e in right_expressions(3, 500):
            self.assertIsNone(judge_expression(COLUMNS, e), e)
            self.assertEqual(kind_in(COLUMNS, e), plain_kind(e))
        self.assertEqual(kind_in(COLUMNS, ("if", ONE, NONE, ("if", ONE, NONE, NONE))), "none")
        self.assertEqual(kind_in((), ("if", ONE, NONE, TEXT)), "text")


class Worths(unittest.TestCase):
    SOME = (None, 0, 1, -1, 5, 10 ** 59)
    TEXTS = (None, "", "a", "b", "abcdefgh", "abcdefghijkl")

    def check(self, e):
        awaited = plain_worth(e, ())
        found = worth((), e, ())
        self.assertEqual(found, awaited, e)
        self.assertIs(type(found), type(awaited), e)

    def test_each_word_over_all_values(self):
        for word, arity in ARITIES.items():
            for some in (self.SOME, self.TEXTS):
                for values in itertools.product(some, repeat=arity):
                    if some == self.SOME and word != "joined" or word in ("is", "below", "joined") and some == self.TEXTS:
                        self.check((word,) + tuple(("value", value) for value in values))

    def test_choice_of_texts(self):
        for value in self.SOME:
            self.check(("if", ("value", value), TEXT, NONE))
            self.check(("if", ("value", value), NONE, TEXT))

    def test_told_worths(self):
        for e, awaited in (
            (("is", NONE, NONE), 1), (("is", NONE, ("value", 0)), 0), (("below", NONE, ("value", 0)), None),
            (("and", ("value", 0), NONE), None), (("or", ONE, NONE), None), (("not", NONE), None), (("not", ("value", 0)), 1),
            (("not", ("value", -3)), 0), (("and", ("value", 2), ("value", -2)), 1), (("if", ("value", -1), ONE, TEXT), 1),
            (("joined", ("value", "abcdefghijkl"), ("value", "m")), "abcdefghijkl"),
            (("joined", ("value", "abcdefghijk"), ("value", "lm")), "abcdefghijkl"), (("joined", NONE, TEXT), None),
            (("times", ("value", 10 ** 59), ("value", -10 ** 59)), -10 ** 118), (("less", ("value", 3), ("value", 5)), -2),
            (("below", ("value", "B"), ("value", "a")), 1), (("below", ("value", 2), ("value", 2)), 0),
        ):
            found = worth((), e, ())
            self.assertEqual(found, awaited, e)
            self.assertIs(type(found), type(awaited), e)

    def test_great_integers(self):
        e = A
        for _ in range(6):
            e = ("times", e, e)
        self.assertEqual(worth((("price", "number"),), e, (10 ** 59,)), 10 ** (59 * 64))

    def test_of_many(self):
        for draw, e in right_expressions(4, 400):
            for _ in range(5):
                values = values_for(draw, COLUMNS)
                self.assertEqual(worth(COLUMNS, e, values), plain_worth(e, values))
                if plain_kind(e) != "text":
                    self.assertIs(holds(COLUMNS, e, values), plain_worth(e, values) not in (None, 0))

    def test_holds(self):
        for value, awaited in ((None, False), (0, False), (1, True), (-1, True), (2, True), (10 ** 59, True)):
            self.assertIs(holds((), ("value", value), ()), awaited)
            self.assertIs(holds((("n", "number"),), ("column", "n"), (value,)), awaited)
        self.assertIs(holds(COLUMNS, ("if", A, NONE, NONE), ("a", 1, None, None)), False)


class Folding(unittest.TestCase):
    def test_told_cases(self):
        nothing = ("if", A, NONE, NONE)
        for e, awaited in (
            (ONE, ONE), (NONE, NONE), (A, A), (("plus", ONE, ONE), ("value", 2)), (("plus", ONE, A), ("plus", ONE, A)),
            (("not", ("plus", ONE, NONE)), ("not", ("plus", ONE, NONE))), (("is", ("plus", ONE, NONE), NONE), ONE),
            (("if", ONE, A, B), A), (("if", ("value", 0), B, A), A), (("if", NONE, B, A), A),
            (("if", ONE, NONE, A), ("if", ONE, NONE, A)), (("if", ("value", 0), A, NONE), ("if", ("value", 0), A, NONE)),
            (("if", ONE, ("if", A, NONE, ONE), A), ("if", A, NONE, ONE)), (("if", NONE, A, ("if", A, ONE, NONE)), ("if", A, ONE, NONE)),
            (("if", ONE, nothing, A), ("if", ONE, nothing, A)), (("if", NONE, A, nothing), ("if", NONE, A, nothing)),
            (("if", ONE, ("plus", NONE, ONE), TEXT), ("plus", NONE, ONE)), (("if", ONE, NONE, NONE), ("if", ONE, NONE, NONE)),
            (("if", ONE, NONE, ONE), ("if", ONE, NONE, ONE)), (("if", ("value", 0), NONE, ONE), ONE),
            (("if", ("plus", ONE, NONE), A, ("plus", ONE, ONE)), ("value", 2)),
            (("if", ("if", ONE, ("value", 0), A), A, ("joined", TEXT, TEXT)), ("value", "xx")),
            (("is", ("if", ONE, ONE, A), ("value", 1)), ONE), (("less", ONE, ("times", ("value", 10 ** 59), ONE)),
                                                              ("value", 1 - 10 ** 59)),
            (("joined", ("value", "abcdefgh"), ("value", "abcdefgh")), ("value", "abcdefghabcd")),
            (("if", ("if", ONE, NONE, ONE), A, B), B), (("is", ("if", ONE, NONE, ONE), NONE), ONE),
            (("if", ("if", ONE, NONE, A), A, ("column", "n")), ("if", ("if", ONE, NONE, A), A, ("column", "n"))),
        ):
            self.assertEqual(folded(e), awaited, e)
            self.assertEqual(folded(awaited), awaited)

    def test_of_many(self):
        changed = 0
        for draw, e in right_expressions(5, 1500):
            found = folded(e)
            self.assertEqual(found, folded_in_some_order(draw, e), e)
            self.assertEqual(folded(found), found)
            self.assertEqual(plain_kind(found), plain_kind(e))
            self.assertLessEqual(parts_of(found), parts_of(e))
            values = values_for(draw, COLUMNS)
            self.assertEqual(plain_worth(found, values), plain_worth(e, values))
            changed += found != e
        self.assertGreater(changed, 300)


class PutIn(unittest.TestCase):
    def test_told_cases(self):
        given = {"price": ("plus", A, ONE), "user": B, "spare": NONE}
        self.assertEqual(put_in(("if", A, ("is", B, TEXT), A), given),
                         ("if", ("plus", A, ONE), ("is", B, TEXT), ("plus", A, ONE)))
        self.assertEqual([put_in(e, given) for e in (A, ONE, NONE, ("value", "price"))],
                         [("plus", A, ONE), ONE, NONE, ("value", "price")])
        self.assertEqual(put_in(("plus", ("column", "a"), ("column", "b")), {"a": ("column", "b"), "b": ("column", "a")}),
                         ("plus", ("column", "b"), ("column", "a")))

    def test_worths_and_the_dict_stays(self):
        for draw, e in right_expressions(6, 300):
            given = {name: an_expression(draw, COLUMNS, kind, 4) for name, kind in COLUMNS}
            before = dict(given)
            values = values_for(draw, COLUMNS)
            inner = tuple(plain_worth(given[name], values) for name, _ in COLUMNS)
            self.assertEqual(plain_worth(put_in(e, given), values), plain_worth(e, inner))
            self.assertEqual(given, before)


class GreatExpressions(unittest.TestCase):
    """Two thousand parts, two hundred within one another."""

    def test_two_hundred_within_one_another(self):
        for word, step in (("not", lambda worth_ahead: int(worth_ahead == 0)), ("plus", lambda worth_ahead: worth_ahead + 1)):
            e, awaited = deep(word, 200), 7
            for _ in range(199):
                awaited = step(awaited)
            values = ("a", 7, None, None)
            self.assertEqual(worth(COLUMNS, e, values), awaited)
            self.assertIs(holds(COLUMNS, e, values), awaited != 0)
            self.assertEqual((folded(e), columns_in(e), kind_in(COLUMNS, e)), (e, ("price",), "number"))
            self.assertEqual(parts_of(e), 200 if word == "not" else 399)
            free = put_in(e, {"price": ("value", 7)})
            self.assertEqual(folded(free), ("value", awaited))

    def test_choices_within_one_another(self):
        e = NONE
        for _ in range(199):
            e = ("if", A, e, NONE)
        self.assertEqual((kind_in(COLUMNS, e), folded(e)), ("none", e))
        self.assertIsNone(worth(COLUMNS, e, ("a", 1, None, None)))
        e = NONE
        for _ in range(199):
            e = ("if", ONE, NONE, e)
        self.assertEqual((kind_in(COLUMNS, e), folded(e)), ("none", e))

    def test_two_thousand_parts(self):
        e = A
        for _ in range(9):
            e = ("plus", e, e)
        for _ in range(150):
            e = ("less", e, ("and", ONE, ("not", ("value", 0))))
        self.assertGreater(parts_of(e), 1500)
        short = e
        self.assertEqual(worth(COLUMNS, short, (None, 3, None, None)), 3 * 512 - 150)
        self.assertEqual(parts_of(folded(short)), 1023 + 2 * 150)
        self.assertEqual(columns_in(short), ("price",))


if __name__ == "__main__":
    unittest.main()
