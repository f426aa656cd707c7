import copy
import unittest

from oncestream.errors import BadQuery
from oncestream.queries import (
    columns_of, judge_query, need_query, out_of, sources_of, step_of, steps_ahead, steps_behind, wanted_of,
)
from tests.makers import ANYTHING, exchanged, within

USER, PRICE = ("user", "text"), ("price", "number")
S = ("s", ("source", (USER, PRICE)))
T = ("t", ("source", (USER, ("n", "number"))))
ONE, TEXT, NONE = ("value", 1), ("value", "x"), ("value", None)
P, U = ("column", "price"), ("column", "user")
MANY = ("many", "count", ONE)

# A right step of each kind over s and t, with its columns.
RIGHT = {
    "source": (("source", (("a", "text"), ("b", "number"))), (("a", "text"), ("b", "number"))),
    "keep": (("keep", "s", ("below", ONE, P)), (USER, PRICE)),
    "make": (("make", "s", (("a", U), ("b", NONE), ("c", ("plus", P, ONE)))),
             (("a", "text"), ("b", "number"), ("c", "number"))),
    "both": (("both", "s", "s"), (USER, PRICE)),
    "sum": (("sum", "s", ("user",), ("sliding", 10, 5), (MANY, ("a", "sum", P), ("b", "least", U), ("c", "greatest", P),
                                                        ("d", "least", NONE))),
            (USER, ("from", "number"), ("to", "number"), ("many", "number"), ("a", "number"), ("b", "text"),
             ("c", "number"), ("d", "number"))),
    "join": (("join", "s", "t", ("user",), 0, 5), (USER, PRICE, ("n", "number"))),
}


def broken(word, faults):
    """A pair with a step of this kind that has these faults."""
    name = "s" if "name" in faults else "x"
    of = "nowhere" if "of" in faults else "s"
    e = ("column", "other") if "kind" in faults else ONE
    form = "form" in faults
    if word == "source":
        return (name, ("source", (USER, USER) if form else (USER,)))
    if word == "keep":
        return (name, ("keep", of, e, 1) if form else ("keep", of, e))
    if word == "make":
        told = (("a", e), ("a", ONE)) if "columns" in faults else (("a", e),)
        return (name, ("make", of, list(told) if form else told))
    if word == "both":
        return (name, ("both", of, "T" if form else "t" if "columns" in faults else "s"))
    if word == "sum":
        keys = ("user", "user") if "key" in faults else ("user",)
        told = (("a", "sum", e),) + ((("a", "count", ONE),) if "columns" in faults else ())
        return (name, ("sum", of, keys, ("even", 0 if form else 5), told))
    keys = ("other",) if "key" in faults else ("user",)
    return (name, ("join", of, "s" if "columns" in faults else "t", keys, 0, -1 if form else 0))


FAULTS = {
    "source": ("form", "name"), "keep": ("form", "name", "of", "kind"),
    "make": ("form", "name", "of", "kind", "columns"), "both": ("form", "name", "of", "columns"),
    "sum": ("form", "name", "of", "key", "kind", "columns"), "join": ("form", "name", "of", "key", "columns"),
}


def query_of(*pairs, out="s"):
    return (S, T) + pairs + (("out", out),)


class Judging(unittest.TestCase):
    def check(self, query, awaited):
        before = copy.deepcopy(query)
        self.assertEqual(judge_query(query), awaited, query)
        if awaited is None:
            self.assertIsNone(need_query(query))
        else:
            with self.assertRaises(BadQuery) as caught:
                need_query(query)
            self.assertEqual((caught.exception.number, caught.exception.word), awaited)
        self.assertEqual(query, before)

    def test_each_kind_of_step(self):
        for word, (step, _) in RIGHT.items():
            self.check(query_of(("x", step), out="x"), None)
        self.check(query_of(), None)
        self.check((("a", ("source", ())), ("out", "a")), None)

    def test_each_fault_with_all_that_come_behind_it(self):
        for word, faults in FAULTS.items():
            for k, fault in enumerate(faults):
                for told in (faults[k:k + 1], faults[k:]):
                    pair = broken(word, told)
                    self.check(query_of(pair), (2, fault))
                    self.check(query_of(pair, out="nowhere"), (2, fault))
                    self.check(query_of(pair, out=5), (2, fault))
                    self.check(query_of(("y", ("both", "s", "t")), pair), (2, "columns"))
                    self.check(query_of(("y", ("both", "s", "s")), pair), (3, fault))
                    self.check(query_of(pair, None), (2, fault))

    def test_what_is_no_tuple(self):
        for value in ((), [], None, True, False, 5, "query", {}, {"a": S}, list(query_of())):
            self.check(value, (0, "form"))

    def test_the_last_pair(self):
        for last, word in ((("out", "x"), "of"), (("out", "out"), "of"), (("out", 5), "form"), (("out",), "form"),
                           (["out", "s"], "form"), (("out", "s", 1), "form"), (("out", "S"), "form"), (None, "form"),
                           (("x", ("keep", "s", ONE)), "form"), (("out", ("keep", "s", ONE)), "form"), ((), "form"),
                           (("Out", "s"), "form"), (("out", ""), "form"), (("out", ["s"]), "form"), (S, "form")):
            self.check((S, T) + (last,), (2, word))
            self.check((last,), (0, word))
        self.check((("out", "s"),), (0, "of"))
        self.check((S, T, ("out", "t")), None)

    def test_names(self):
        for name, word in (("out", "name"), ("s", "name"), ("t", "name"), ("", "form"), ("X", "form"), (None, "form"),
                           ("abcdefghi", "form"), (("x",), "form"), ("x1", "form"), (True, "form")):
            self.check(query_of((name, ("keep", "s", ONE))), (2, word))
            self.check(query_of((name, ("keep", "nowhere", ("column", "other")))), (2, word))
        self.check(query_of(("abcdefgh", ("keep", "s", ONE))), None)

    def test_pairs_and_steps_of_no_form(self):
        for pair in (["x", ("keep", "s", ONE)], ("x",), ("x", ("keep", "s", ONE), 1), ("x", ["keep", "s", ONE]), "xy", (),
                     ("x", ()), ("x", ("gather", "s", (), ("even", 5), ())), ("x", ("finish", "s", (), ("even", 5), ())),
                     ("x", (["keep"], "s", ONE)), ("x", (None,)), ("x", ("keep",)), ("x", "keep"), ("x", ({}, "s", ONE)),
                     ("out", "s"), ("x", ("Keep", "s", ONE))):
            self.check(query_of(pair), (2, "form"))

    def test_steps_of_too_few_or_too_many_members(self):
        for step, _ in RIGHT.values():
            for many in range(len(step)):
                self.check(query_of(("x", step[:many])), (2, "form"))
            self.check(query_of(("x", step + (1,))), (2, "form"))

    def test_told_columns_of_too_few_or_too_many_members(self):
        for told in (("a",), ("a", ONE, ONE), ("a", "count", ONE), (), ("A", ONE), ("a", 1), "ab", None):
            self.check(query_of(("x", ("make", "s", (("b", ONE), told)))), (2, "form"))
        for told in (("a",), ("a", "count"), ("a", ONE), ("a", "count", ONE, ONE), (), ("A", "count", ONE), ("a", "count", 1), "abc", None):
            self.check(query_of(("x", ("sum", "s", (), ("even", 5), (MANY, told)))), (2, "form"))

    def test_lists_for_tuples_and_true_for_one(self):
        for word, (step, _) in RIGHT.items():
            for wrong in exchanged(step, lambda value: [list(value)] if isinstance(value, tuple) else []):
                self.check(query_of(("x", wrong)), (2, "form"))
            for wrong in exchanged(step, lambda value: [True] if isinstance(value, int) else []):
                self.check(query_of(("x", wrong)), (2, "form"))
            for wrong in exchanged(step, lambda value: [None, 5, "A", ("b",)] if isinstance(value, str) else []):
                number, fault = judge_query(query_of(("x", wrong))) or (None, None)
                self.assertIn((number, fault), ((2, "form"), (2, "kind"), (None, None)))

    def test_forty_one_parts_are_no_expression(self):
        e = ONE
        for _ in range(39):
            e = ("not", e)
        for step in (("keep", "s", e), ("make", "s", (("a", e),)), ("sum", "s", (), ("even", 5), (("a", "sum", e),))):
            self.check(query_of(("x", step)), None)
            wrong = exchanged(step, lambda value: [("not", e)] if value == e else [])
            self.check(query_of(("x", wrong[0])), (2, "form"))

    def test_windows(self):
        most = 10 ** 6
        for window, right in (
            (("even", 1), True), (("even", most), True), (("even", 0), False), (("even", most + 1), False),
            (("even", -5), False), (("even", 5, 5), False), (("even",), False), (("even", "5"), False),
            (("session", 1), True), (("session", most), True), (("session", 0), False), (("session", most + 1), False),
            (("session", 5, 5), False), (("sliding", 50, 1), True), (("sliding", 51, 1), False), (("sliding", 1, most), True),
            (("sliding", most, 20000), True), (("sliding", most, 19999), False), (("sliding", most, most), True),
            (("sliding", most + 1, most), False), (("sliding", 1, most + 1), False), (("sliding", 0, 1), False),
            (("sliding", 1, 0), False), (("sliding", 5), False), (("sliding", 5, 5, 5), False), (("other", 5), False),
            ((), False), (None, False), (5, False), (("even", True), False), (["even", 5], False), (("even", None), False),
            (([], 5), False), (("sliding", (5,), 5), False), (("even", 10 ** 59), False), ("even", False),
        ):
            self.check(query_of(("x", ("sum", "s", (), window, ()))), None if right else (2, "form"))

    def test_numbers_of_joins(self):
        for number, right in ((0, True), (1, True), (10 ** 6, True), (10 ** 6 + 1, False), (-1, False), (True, False),
                              (False, False), (None, False), ("5", False), ((), False), ([], False), (10 ** 59, False)):
            awaited = None if right else (2, "form")
            self.check(query_of(("x", ("join", "s", "t", ("user",), number, 0))), awaited)
            self.check(query_of(("x", ("join", "s", "t", ("user",), 0, number))), awaited)

    def test_sixteen_and_seventeen_pairs(self):
        letters = "abcdefghijklmnop"
        sixteen = tuple((letter, ("source", ())) for letter in letters)
        self.check(sixteen + (("out", "p"),), None)
        self.check(sixteen + (("q", ("source", ())), ("out", "p")), (16, "form"))
        self.check(sixteen + (("a", ("both", "x", "x")), None, ("out", "p")), (16, "form"))
        self.check(sixteen[:15] + (("a", ("source", ())), ("q", ("source", ())), ("out", "a")), (15, "name"))
        self.check(sixteen + (("out", "q"),), (16, "of"))
        self.check(sixteen, (15, "form"))

    def test_keys(self):
        for keys, right in (((), True), (("user",), True), (("price",), True), (("user", "price"), True),
                            (("user", "user"), False), (("n",), False), (("user", "n"), False), (("from",), False)):
            self.check(query_of(("x", ("sum", "s", keys, ("even", 5), ()))), None if right else (2, "key"))
        other = ("a", ("source", (("n", "text"), ("user", "text"), ("k", "number"))))
        for keys, word in ((("user",), "columns"), ((), "columns"), (("n",), "key"), (("n", "user"), "key"), (("user", "n"), "key"),
                           (("user", "user"), "key"), (("k",), "key"), (("price",), "key"), (("from",), "key")):
            self.check(query_of(other, ("x", ("join", "t", "a", keys, 0, 0))), (3, word))
            self.check(query_of(other, ("x", ("join", "a", "t", keys, 0, 0))), (3, word))
        for keys, word in ((("user",), None), ((), "columns"), (("n",), "key"), (("price",), "key")):
            self.check(query_of(("x", ("join", "s", "t", keys, 0, 0))), None if word is None else (2, word))

    def test_the_kinds_of_expressions(self):
        for step, right in (
            (("keep", "s", U), False), (("keep", "s", TEXT), False), (("keep", "s", NONE), True), (("keep", "s", P), True),
            (("keep", "s", ("joined", U, U)), False), (("keep", "s", ("not", U)), False), (("keep", "s", ("column", "n")), False),
            (("make", "s", (("a", U), ("b", ("plus", U, ONE)))), False), (("make", "s", (("a", U), ("b", P))), True),
            (("sum", "s", (), ("even", 5), (("a", "sum", U),)), False), (("sum", "s", (), ("even", 5), (("a", "sum", NONE),)), True),
            (("sum", "s", (), ("even", 5), (("a", "count", U), ("b", "least", U), ("c", "greatest", TEXT))), True),
            (("sum", "s", (), ("even", 5), (("a", "count", ("column", "n")),)), False),
            (("sum", "s", (), ("even", 5), (("a", "least", ("not", TEXT)),)), False),
            (("sum", "s", (), ("even", 5), (("a", "count", ONE), ("b", "sum", TEXT))), False),
            (("sum", "s", (), ("even", 5), (("a", "sum", ("if", NONE, NONE, TEXT)),)), False),
        ):
            self.check(query_of(("x", step)), None if right else (2, "kind"))

    def test_hows(self):
        for how, right in (("count", True), ("sum", True), ("least", True), ("greatest", True), ("most", False), ("", False),
                           (None, False), (["sum"], False), (("sum",), False), (1, False)):
            step = ("sum", "s", (), ("even", 5), (("a", how, ONE),))
            self.check(query_of(("x", step)), None if right else (2, "form"))

    def test_eight_and_nine_columns(self):
        names = "abcdefghijklm"
        for many in range(10):
            made = tuple((name, ONE) for name in names[:many])
            self.check(query_of(("x", ("make", "s", made))), None if many <= 8 else (2, "columns"))
            summed = tuple((name, "count", ONE) for name in names[:many])
            self.check(query_of(("x", ("sum", "s", ("user",), ("even", 5), summed))), None if many <= 5 else (2, "columns"))
            self.check(query_of(("x", ("sum", "s", (), ("even", 5), summed))), None if many <= 6 else (2, "columns"))
        wide = ("w", ("source", tuple((name, "text") for name in names[:7])))
        self.check(query_of(wide, ("x", ("join", "w", "s", (), 0, 0))), (3, "columns"))
        self.check(query_of(wide, ("y", ("keep", "s", ONE)), ("x", ("join", "y", "s", ("user",), 0, 0))), (4, "columns"))
        self.check(query_of(wide, ("x", ("join", "s", "s", ("price", "user"), 0, 0))), None)
        self.check(query_of(("w", ("source", wide[1][1][:6])), ("x", ("join", "w", "s", (), 0, 0))), None)

    def test_names_twice(self):
        self.check(query_of(("x", ("make", "s", (("a", ONE), ("b", ONE), ("a", U))))), (2, "columns"))
        for name in ("user", "from", "to", "a"):
            step = ("sum", "s", ("user",), ("even", 5), (("a", "count", ONE), (name, "count", ONE)))
            self.check(query_of(("x", step)), (2, "columns"))
        self.check((("a", ("source", (("from", "text"),))), ("x", ("sum", "a", ("from",), ("even", 5), ())), ("out", "a")),
                   (1, "columns"))

    def test_both(self):
        for columns, right in (((USER, PRICE), True), ((PRICE, USER), False), ((USER,), False), ((), False),
                               ((USER, ("price", "text")), False), ((USER, ("cost", "number")), False)):
            self.check(query_of(("y", ("source", columns)), ("x", ("both", "s", "y"))), None if right else (3, "columns"))

    def test_anything_in_each_place(self):
        query = query_of(*[(word[:2], step) for word, (step, _) in RIGHT.items()], out="ke")
        self.check(query, None)
        words = ("form", "name", "of", "key", "kind", "columns")
        for wrong in exchanged(query, lambda value: [ANYTHING[len(repr(value)) % len(ANYTHING)], within(30), None]):
            found = judge_query(wrong)
            if found is not None:
                self.assertIsInstance(found, tuple)
                self.assertIn(found[0], range(len(query)))
                self.assertIn(found[1], words)

    def test_anything(self):
        for value in ANYTHING + (within(30),):
            self.assertIsInstance(judge_query(value), tuple)
            self.assertEqual(judge_query((value,)), (0, "form"))
            self.assertEqual(judge_query((value, ("out", "s"))), (0, "form"))


class Parts(unittest.TestCase):
    QUERY = (S, T, ("k", ("keep", "s", ONE)), ("j", ("join", "k", "t", ("user",), 0, 0)), ("b", ("both", "s", "s")),
             ("m", ("make", "j", (("user", U), ("price", P)))), ("c", ("both", "m", "b")),
             ("w", ("sum", "c", ("price",), ("session", 5), (MANY,))), ("out", "c"))

    def test_columns_of_each_kind_of_step(self):
        for word, (step, columns) in RIGHT.items():
            self.assertEqual(columns_of(query_of(("x", step), out="x"), "x"), columns, word)

    def test_columns(self):
        self.assertEqual(judge_query(self.QUERY), None)
        for name, columns in (("s", (USER, PRICE)), ("t", (USER, ("n", "number"))), ("k", (USER, PRICE)),
                              ("j", (USER, PRICE, ("n", "number"))), ("b", (USER, PRICE)), ("m", (USER, PRICE)),
                              ("c", (USER, PRICE)), ("w", (PRICE, ("from", "number"), ("to", "number"), ("many", "number")))):
            self.assertEqual(columns_of(self.QUERY, name), columns)

    def test_columns_of_joins(self):
        right = ("r", ("source", (("z", "number"), ("user", "text"), ("a", "text"), ("price", "number"))))
        query = (S, right, ("x", ("join", "s", "r", ("price", "user"), 0, 0)), ("y", ("join", "r", "s", ("user", "price"), 0, 0)),
                 ("out", "x"))
        self.assertEqual(columns_of(query, "x"), (USER, PRICE, ("z", "number"), ("a", "text")))
        self.assertEqual(columns_of(query, "y"), right[1][1])

    def test_columns_through_many_joins(self):
        pairs = [("a", ("source", (USER,)))]
        for one, other in zip("abcdefghijklmno", "bcdefghijklmnop"):
            pairs.append((other, ("join", one, one, ("user",), 0, 0)))
        query = tuple(pairs) + (("out", "p"),)
        self.assertIsNone(judge_query(query))
        self.assertEqual(columns_of(query, "p"), (USER,))
        self.assertEqual(wanted_of(query), tuple("abcdefghijklmnop"))

    def test_steps_ahead_and_behind(self):
        for name, ahead, behind in (("s", (), ("k", "b")), ("t", (), ("j",)), ("k", ("s",), ("j",)), ("j", ("k", "t"), ("m",)),
                                    ("b", ("s", "s"), ("c",)), ("m", ("j",), ("c",)), ("c", ("m", "b"), ("w",)),
                                    ("w", ("c",), ())):
            self.assertEqual(steps_ahead(self.QUERY, name), ahead)
            self.assertEqual(steps_behind(self.QUERY, name), behind)

    def test_sources_and_out(self):
        self.assertEqual((sources_of(self.QUERY), out_of(self.QUERY)), (("s", "t"), "c"))
        self.assertEqual(sources_of((T, S, ("out", "s"))), ("t", "s"))

    def test_wanted(self):
        for out, wanted in (("c", ("s", "t", "k", "j", "b", "m", "c")), ("s", ("s",)), ("b", ("s", "b")), ("t", ("t",)),
                            ("w", ("s", "t", "k", "j", "b", "m", "c", "w")), ("j", ("s", "t", "k", "j"))):
            self.assertEqual(wanted_of(self.QUERY[:-1] + (("out", out),)), wanted)

    def test_step_of(self):
        for name, step in self.QUERY[:-1]:
            self.assertEqual(step_of(self.QUERY, name), step)


if __name__ == "__main__":
    unittest.main()
