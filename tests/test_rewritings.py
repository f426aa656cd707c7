import unittest

from oncestream.expressions import columns_in, folded, kind_in, parts_of
from oncestream.meaning import marks_of, meaning, whole
from oncestream.planner import planned
from oncestream.queries import columns_of, judge_query, sources_of, steps_ahead
from oncestream.rewritings import applied, fresh, needed, plan_columns, unplanned, weight_of
from tests.makers import a_draw, a_query, an_input

WORDS = ("spare", "fold", "all", "split", "make", "keepmake", "keepboth", "makeboth", "keepsum", "keepkeys", "keepleft",
         "keepright", "drop", "narrow", "keepkeep", "same", "gather")
FIRST = WORDS[:12]

S = ("s", ("source", (("k", "text"), ("n", "number"))))
T = ("t", ("source", (("k", "text"), ("m", "number"))))
K, N, M = ("column", "k"), ("column", "n"), ("column", "m")
ZERO, ONE, TWO, NONE, TEXT = ("value", 0), ("value", 1), ("value", 2), ("value", None), ("value", "x")
E, F = ("below", ONE, N), ("is", K, TEXT)
COUNT = ("c", "count", ONE)
MADE = (("k", ("joined", K, TEXT)), ("m", ("plus", N, ONE)))
SUM = ("sum", "s", ("k",), ("even", 5), (COUNT, ("d", "least", N)))
JOIN = ("join", "s", "t", ("k",), 2, 3)


def plan_of(*pairs, out="x"):
    return (S, T) + pairs + (("out", out),)


def pairs_of(plan):
    """The pairs between the sources and "out"."""
    return plan[2:-1]


class Rule(unittest.TestCase):
    """What the tests of single rules share."""

    def comes(self, plan, rule, awaited, name="x"):
        """The rule applies, and what comes are these pairs behind the sources."""
        made = applied(plan, rule, name)
        self.assertIsNotNone(made, (rule, plan))
        self.assertEqual(pairs_of(made), awaited)
        self.assertEqual(made[:2] + made[-1:], plan[:2] + plan[-1:])
        self.assertEqual(plan_columns(made, plan[-1][1]), plan_columns(plan, plan[-1][1]))
        self.same_meaning(plan, made)

    def same_meaning(self, plan, made):
        one, other = unplanned(plan), unplanned(made)
        draw = a_draw(len(repr(plan)))
        for _ in range(4):
            fed = an_input(draw, one, sources_of, columns_of)
            self.assertEqual(meaning(one, fed), meaning(other, fed))
            self.assertEqual(marks_of(one, fed)[one[-1][1]], marks_of(other, fed)[other[-1][1]])

    def not_at(self, plan, rule, name="x"):
        self.assertIsNone(applied(plan, rule, name), (rule, plan))

    def not_unless_alone(self, rule, ahead, step):
        """The rule applies to step over ahead, called m, but not if something else reads m, too."""
        self.assertIsNotNone(applied(plan_of(("m", ahead), ("x", step)), rule, "x"))
        for other in (("keep", "m", ONE), ("make", "m", ()), ("both", "m", "m"), ("sum", "m", (), ("even", 5), ())):
            self.not_at(plan_of(("m", ahead), ("x", step), ("y", other)), rule)
            self.not_at(plan_of(("m", ahead), ("y", other), ("x", step)), rule)
        self.not_at(plan_of(("m", ahead), ("x", step), out="m"), rule)
        self.assertIsNotNone(applied(plan_of(("m", ahead), ("x", step), ("y", ("both", "x", "x")), out="y"), rule, "x"))


class NoRule(Rule):
    def test_no_words_and_no_names(self):
        plan = plan_of(("x", ("keep", "s", ("and", E, F))))
        for rule in ("", "Split", "none", "splits", "and", "x", "out", "spare "):
            self.assertIsNone(applied(plan, rule, "x"))
        for name in ("", "y", "out", "split", "source", "and", "X"):
            for rule in WORDS:
                self.assertIsNone(applied(plan, rule, name))

    def test_no_rule_but_narrow_and_no_other_at_a_source(self):
        plan = plan_of(("x", ("keep", "s", ("and", E, F))))
        for rule in WORDS:
            for name in ("s", "t"):
                self.assertIsNone(applied(plan, rule, name), rule)


class Spare(Rule):
    def test_it(self):
        plan = plan_of(("x", ("keep", "s", E)), ("y", ("keep", "x", E)), ("z", ("both", "s", "s")), out="y")
        self.comes(plan, "spare", plan[2:4], "z")
        for name in ("s", "t", "x", "y"):
            self.not_at(plan, "spare", name)
        self.comes(plan_of(("x", ("keep", "s", E)), ("y", ("keep", "x", E)), out="x"), "spare", (("x", ("keep", "s", E)),), "y")


class Fold(Rule):
    def test_it(self):
        two, three = ("plus", ONE, ONE), ("less", ("value", 5), TWO)
        self.comes(plan_of(("x", ("keep", "s", ("below", two, N)))), "fold", (("x", ("keep", "s", ("below", TWO, N))),))
        self.comes(plan_of(("x", ("make", "s", (("a", two), ("b", N), ("c", three))))), "fold",
                   (("x", ("make", "s", (("a", TWO), ("b", N), ("c", ("value", 3))))),))
        self.comes(plan_of(("x", ("sum", "s", ("k",), ("session", 5), (COUNT, ("d", "least", two))))), "fold",
                   (("x", ("sum", "s", ("k",), ("session", 5), (COUNT, ("d", "least", TWO)))),))

    def test_where_not(self):
        for step in (("keep", "s", E), ("keep", "s", NONE), ("make", "s", ()), ("make", "s", (("a", NONE), ("b", N))), SUM,
                     ("both", "s", "s"), JOIN, ("keep", "s", ("not", NONE))):
            self.not_at(plan_of(("x", step)), "fold")
        sums = (("c", "count", ("plus", ONE, ONE)),)
        parted = applied(plan_of(("x", ("sum", "s", (), ("even", 5), sums))), "gather", "x")
        for name in ("a", "x"):
            self.not_at(parted, "fold", name)


class All(Rule):
    def test_it(self):
        for v in (1, -1, 7):
            plan = plan_of(("x", ("keep", "s", ("value", v))), ("y", ("both", "x", "x")), ("z", ("keep", "x", E)), out="y")
            self.comes(plan, "all", (("y", ("both", "s", "s")), ("z", ("keep", "s", E))))
        made = applied(plan_of(("x", ("keep", "s", ONE))), "all", "x")
        self.assertEqual(made, (S, T, ("out", "s")))
        self.comes(plan_of(("x", ("keep", "s", ONE)), ("y", ("join", "x", "t", ("k",), 0, 0)), out="y"), "all",
                   (("y", ("join", "s", "t", ("k",), 0, 0)),))
        named = plan_of(("k", ("keep", "s", ONE)), ("y", ("make", "k", (("k", K),))), ("x", ("sum", "y", ("k",), ("even", 5), ())))
        self.comes(named, "all", (("y", ("make", "s", (("k", K),))), ("x", ("sum", "y", ("k",), ("even", 5), ()))), "k")

    def test_where_not(self):
        for step in (("keep", "s", ZERO), ("keep", "s", NONE), ("keep", "s", E), ("keep", "s", ("not", ZERO)),
                     ("make", "s", (("a", ONE),)), ("both", "s", "s")):
            self.not_at(plan_of(("x", step)), "all")


class Split(Rule):
    def test_it(self):
        self.comes(plan_of(("x", ("keep", "s", ("and", E, F)))), "split", (("a", ("keep", "s", E)), ("x", ("keep", "a", F))))
        plan = plan_of(("a", ("both", "s", "s")), ("x", ("keep", "a", ("and", ("and", E, F), E))), ("y", ("keep", "a", E)))
        self.comes(plan, "split", (plan[2], ("b", ("keep", "a", ("and", E, F))), ("x", ("keep", "b", E)), plan[4]))

    def test_where_not(self):
        for step in (("keep", "s", E), ("keep", "s", ("or", E, F)), ("keep", "s", ("not", ("and", E, F))),
                     ("make", "s", (("a", ("and", E, F)),)), ("sum", "s", (), ("even", 5), (("c", "sum", ("and", E, F)),))):
            self.not_at(plan_of(("x", step)), "split")


class Make(Rule):
    STEP = ("make", "m", (("a", ("times", M, M)), ("k", K), ("b", ONE)))

    def test_it(self):
        self.comes(plan_of(("m", ("make", "s", MADE)), ("x", self.STEP)), "make", (
            ("x", ("make", "s", (("a", ("times", MADE[1][1], MADE[1][1])), ("k", MADE[0][1]), ("b", ONE)))),))

    def test_where_not(self):
        self.not_unless_alone("make", ("make", "s", MADE), self.STEP)
        for ahead, step in ((("keep", "t", M), self.STEP), (("make", "s", MADE), ("keep", "m", M)), (("both", "t", "t"), self.STEP)):
            self.not_at(plan_of(("m", ahead), ("x", step)), "make")
        self.not_at(plan_of(("x", ("make", "s", MADE))), "make")


class KeepMake(Rule):
    STEP = ("keep", "m", ("below", M, TWO))

    def test_it(self):
        plan = plan_of(("m", ("make", "s", MADE)), ("z", ("both", "s", "s")), ("x", self.STEP))
        self.comes(plan, "keepmake", (("z", ("both", "s", "s")), ("a", ("keep", "s", ("below", MADE[1][1], TWO))), ("x", ("make", "a", MADE))))

    def test_fresh_names_ahead_of_what_is_left_out(self):
        plan = plan_of(("a", ("make", "s", MADE)), ("x", ("keep", "a", M)))
        self.comes(plan, "keepmake", (("b", ("keep", "s", MADE[1][1])), ("x", ("make", "b", MADE))))

    def test_where_not(self):
        self.not_unless_alone("keepmake", ("make", "s", MADE), self.STEP)
        for ahead, step in ((("keep", "t", M), self.STEP), (("make", "s", MADE), ("make", "m", ())), (("both", "t", "t"), self.STEP)):
            self.not_at(plan_of(("m", ahead), ("x", step)), "keepmake")
        self.not_at(plan_of(("x", ("keep", "s", E))), "keepmake")


class ThroughBoth(Rule):
    def test_keeps(self):
        keep = ("keep", "m", E)
        plan = plan_of(("b", ("keep", "s", F)), ("m", ("both", "s", "b")), ("x", keep))
        self.comes(plan, "keepboth", (plan[2], ("a", ("keep", "s", E)), ("c", ("keep", "b", E)), ("x", ("both", "a", "c"))))
        self.comes(plan_of(("m", ("both", "s", "s")), ("x", keep)), "keepboth",
                   (("a", ("keep", "s", E)), ("b", ("keep", "s", E)), ("x", ("both", "a", "b"))))

    def test_makes(self):
        make = ("make", "m", (("a", N),))
        plan = plan_of(("b", ("keep", "s", F)), ("m", ("both", "b", "s")), ("x", make))
        self.comes(plan, "makeboth", (plan[2], ("a", ("make", "b", (("a", N),))), ("c", ("make", "s", (("a", N),))), ("x", ("both", "a", "c"))))

    def test_where_not(self):
        both = ("both", "s", "s")
        for rule, step, wrong in (("keepboth", ("keep", "m", E), ("make", "m", ())), ("makeboth", ("make", "m", ()), ("keep", "m", E))):
            self.not_unless_alone(rule, both, step)
            self.not_at(plan_of(("m", both), ("x", wrong)), rule)
            self.not_at(plan_of(("m", ("keep", "s", E)), ("x", step)), rule)
            self.not_at(plan_of(("x", step[:1] + ("s",) + step[2:])), rule)
            self.not_at(plan_of(("m", both), ("x", ("both", "m", "m"))), rule)


class KeepSum(Rule):
    def test_it(self):
        for e in (F, ONE, NONE, ("not", F)):
            for window in (("even", 5), ("sliding", 4, 2), ("session", 3)):
                ahead = SUM[:3] + (window,) + SUM[4:]
                self.comes(plan_of(("m", ahead), ("x", ("keep", "m", e))), "keepsum",
                           (("a", ("keep", "s", e)), ("x", ahead[:1] + ("a",) + ahead[2:])))

    def test_where_not(self):
        self.not_unless_alone("keepsum", SUM, ("keep", "m", F))
        for name in ("from", "to", "c", "d"):
            e = ("below", ONE, ("column", name))
            self.not_at(plan_of(("m", SUM), ("x", ("keep", "m", e))), "keepsum")
            self.not_at(plan_of(("m", SUM), ("x", ("keep", "m", ("and", F, e)))), "keepsum")
        self.not_at(plan_of(("m", SUM), ("x", ("make", "m", (("k", K),)))), "keepsum")
        self.not_at(plan_of(("m", ("keep", "s", E)), ("x", ("keep", "m", F))), "keepsum")
        parted = applied(plan_of(("m", SUM[:4] + ((COUNT,),)), ("x", ("keep", "m", F))), "gather", "m")
        self.not_at(parted, "keepsum")


class KeepJoin(Rule):
    KEYS, LEFT, RIGHT = F, ("below", ONE, N), ("below", ONE, M)

    def join(self, *pairs, e, ahead=JOIN):
        return plan_of(("m", ahead), *pairs, ("x", ("keep", "m", e)))

    def test_keys(self):
        for e in (self.KEYS, ONE, NONE):
            self.comes(self.join(e=e), "keepkeys", (("a", ("keep", "s", e)), ("b", ("keep", "t", e)), ("x", ("join", "a", "b", ("k",), 2, 3))))
        itself = ("join", "s", "s", ("k", "n"), 2, 3)
        self.comes(self.join(e=self.LEFT, ahead=itself), "keepkeys",
                   (("a", ("keep", "s", self.LEFT)), ("b", ("keep", "s", self.LEFT)), ("x", ("join", "a", "b", ("k", "n"), 2, 3))))

    def test_left(self):
        for e in (self.LEFT, ("and", self.LEFT, self.KEYS)):
            self.comes(self.join(e=e), "keepleft", (("a", ("keep", "s", e)), ("x", ("join", "a", "t", ("k",), 2, 3))))

    def test_right(self):
        for e in (self.RIGHT, ("and", self.KEYS, self.RIGHT)):
            self.comes(self.join(e=e), "keepright", (("a", ("keep", "t", e)), ("x", ("join", "s", "a", ("k",), 2, 3))))

    def test_which_one(self):
        for e, awaited in ((self.KEYS, "keepkeys"), (ONE, "keepkeys"), (self.LEFT, "keepleft"), (self.RIGHT, "keepright"),
                           (("and", self.KEYS, self.LEFT), "keepleft"), (("and", self.KEYS, self.RIGHT), "keepright"),
                           (("and", self.LEFT, self.RIGHT), None)):
            for rule in ("keepkeys", "keepleft", "keepright"):
                self.assertIs(applied(self.join(e=e), rule, "x") is not None, rule == awaited, (rule, e))

    def test_where_not(self):
        for rule, e in (("keepkeys", self.KEYS), ("keepleft", self.LEFT), ("keepright", self.RIGHT)):
            self.not_unless_alone(rule, JOIN, ("keep", "m", e))
            self.not_at(plan_of(("m", JOIN), ("x", ("make", "m", (("a", e),)))), rule)
            self.not_at(plan_of(("m", ("make", "s", (("k", K), ("n", N), ("m", N)))), ("x", ("keep", "m", e))), rule)
        for rule in ("keepkeys", "keepleft", "keepright"):
            self.not_at(plan_of(("x", ("keep", "s", F))), rule)


class Drop(Rule):
    def test_makes(self):
        plan = plan_of(("m", ("make", "s", (("a", N), ("b", K), ("c", ONE)))), ("x", ("make", "m", (("z", ("column", "b")),))))
        self.comes(plan, "drop", (("m", ("make", "s", (("b", K),))), plan[3]), "m")
        plan = plan_of(("m", ("make", "s", (("a", N),))), ("x", ("make", "m", (("z", ONE),))))
        self.comes(plan, "drop", (("m", ("make", "s", ())), plan[3]), "m")

    def test_sums(self):
        plan = plan_of(("m", SUM), ("x", ("make", "m", (("z", ("column", "d")),))))
        self.comes(plan, "drop", (("m", SUM[:4] + ((("d", "least", N),),)), plan[3]), "m")
        plan = plan_of(("m", SUM), ("x", ("make", "m", (("z", ("column", "from")),))))
        self.comes(plan, "drop", (("m", SUM[:4] + ((),)), plan[3]), "m")

    def test_of_steps_that_nobody_reads(self):
        plan = plan_of(("m", SUM), ("y", ("make", "s", (("a", N),))), out="s")
        self.comes(plan, "drop", (("m", SUM[:4] + ((),)), plan[3]), "m")
        self.comes(plan, "drop", (plan[2], ("y", ("make", "s", ()))), "y")

    def test_where_not(self):
        plan = plan_of(("m", SUM), ("x", ("make", "m", (("z", ("less", ("column", "c"), ("column", "d"))),))))
        for name in ("s", "t", "m", "x"):
            self.not_at(plan, "drop", name)
        plan = plan_of(("m", SUM), ("x", ("make", "m", (("z", ("column", "d")),))), out="m")
        self.not_at(plan, "drop", "m")
        sums = (COUNT, ("e", "sum", N))
        parted = applied(plan_of(("m", SUM[:4] + (sums,)), ("x", ("make", "m", (("z", ("column", "c")),)))), "gather", "m")
        for name in ("a", "m"):
            self.not_at(parted, "drop", name)
        kept = plan_of(("m", JOIN), ("x", ("make", "m", (("z", N),))))
        self.not_at(kept, "drop", "m")


class Narrow(Rule):
    def test_sources(self):
        plan = plan_of(("m", ("keep", "s", E)), ("x", ("make", "m", ())))
        self.assertEqual(applied(plan, "narrow", "s"), (S, ("a", ("make", "s", (("n", N),))), T, ("m", ("keep", "a", E)), plan[3], plan[4]))
        self.same_meaning(plan, applied(plan, "narrow", "s"))
        plan = plan_of(("x", ("sum", "s", (), ("even", 5), (COUNT,))))
        self.assertEqual(applied(plan, "narrow", "s"), (S, ("a", ("make", "s", ())), T, ("x", ("sum", "a") + plan[2][1][2:]), plan[3]))

    def test_all_readers_in_all_places(self):
        wide = ("m", ("both", "s", "s"))
        plan = plan_of(wide, ("y", ("keep", "m", E)), ("z", ("make", "m", (("q", N),))), ("x", ("make", "y", ())))
        made = applied(plan, "narrow", "m")
        self.assertEqual(pairs_of(made), (wide, ("a", ("make", "m", (("n", N),))), ("y", ("keep", "a", E)), ("z", ("make", "a", (("q", N),))),
                                          ("x", ("make", "y", ()))))
        plan = plan_of(("r", ("source", (("k", "text"), ("n", "number"), ("z", "number")))), ("x", ("join", "r", "r", ("k", "n", "z"), 0, 0)))
        self.not_at(plan, "narrow", "r")
        plan = plan_of(("y", ("join", "s", "s", ("k", "n"), 0, 0)), ("x", ("sum", "y", ("k",), ("even", 5), ())))
        self.comes(plan, "narrow", (plan[2], ("a", ("make", "y", (("k", K),))), ("x", ("sum", "a", ("k",), ("even", 5), ()))), "y")
        plan = plan_of(("r", ("source", (("k", "text"), ("n", "number")))), ("y", ("join", "r", "r", ("k", "n"), 0, 0)), ("x", ("make", "y", ())))
        self.not_at(plan, "narrow", "r")

    def test_a_reader_that_reads_twice(self):
        plan = plan_of(("r", ("source", (("k", "text"),))), ("g", ("keep", "s", ONE)), ("y", ("join", "s", "s", ("k", "n"), 0, 0)),
                       ("x", ("make", "y", ())))
        self.not_at(plan, "narrow", "s")
        plan = (("a", ("source", (("k", "text"), ("n", "number")))), ("y", ("keep", "a", E)), ("z", ("keep", "a", N)),
                ("x", ("make", "y", ())), ("w", ("make", "z", ())), ("v", ("both", "x", "w")), ("out", "v"))
        self.assertEqual(applied(plan, "narrow", "a")[:4], (plan[0], ("b", ("make", "a", (("n", N),))), ("y", ("keep", "b", E)), ("z", ("keep", "b", N))))

    def test_joins(self):
        plan = plan_of(("m", JOIN), ("y", ("keep", "m", M)), ("x", ("make", "y", (("q", K),))))
        self.comes(plan, "narrow", (("m", JOIN), ("a", ("make", "m", (("k", K), ("m", M)))), ("y", ("keep", "a", M)), plan[4]), "m")

    def test_where_not(self):
        for pairs, name in (((("x", ("make", "s", ())),), "s"), ((("x", ("both", "s", "s")),), "s"), ((("x", ("keep", "s", E)),), "s"),
                            ((("m", ("keep", "s", E)), ("y", ("keep", "m", N)), ("x", ("make", "y", ()))), "m"),
                            ((("m", SUM), ("y", ("keep", "m", ("column", "c"))), ("x", ("make", "y", ()))), "m"),
                            ((("m", JOIN), ("x", ("make", "m", (("q", K),)))), "m"), ((("x", JOIN),), "t"), ((("x", JOIN),), "x")):
            self.not_at(plan_of(*pairs), "narrow", name)
        self.not_at(plan_of(("x", ("keep", "s", E))), "narrow", "t")
        self.not_at(plan_of(("y", ("keep", "s", E)), ("z", ("make", "y", ())), ("x", ("keep", "t", M)), out="s"), "narrow", "s")


class KeepKeep(Rule):
    def test_it(self):
        self.comes(plan_of(("m", ("keep", "s", E)), ("x", ("keep", "m", F))), "keepkeep", (("x", ("keep", "s", ("and", E, F))),))

    def test_where_not(self):
        self.not_unless_alone("keepkeep", ("keep", "s", E), ("keep", "m", F))
        self.not_at(plan_of(("m", ("keep", "s", E)), ("x", ("make", "m", ()))), "keepkeep")
        self.not_at(plan_of(("m", ("both", "s", "s")), ("x", ("keep", "m", E))), "keepkeep")
        self.not_at(plan_of(("x", ("keep", "s", E))), "keepkeep")


class Same(Rule):
    def test_it(self):
        keep = ("keep", "s", E)
        plan = plan_of(("w", ("keep", "s", F)), ("y", keep), ("z", keep), ("v", keep), ("x", ("both", "v", "z")))
        self.comes(plan, "same", (plan[2], plan[3], plan[4], ("x", ("both", "y", "z"))), "v")
        self.comes(plan, "same", (plan[2], plan[3], plan[5], ("x", ("both", "v", "y"))), "z")
        made = applied(plan_of(("y", keep), ("x", keep)), "same", "x")
        self.assertEqual(made, (S, T, ("y", keep), ("out", "y")))

    def test_where_not(self):
        keep = ("keep", "s", E)
        plan = plan_of(("y", keep), ("z", ("keep", "t", M)), ("x", keep))
        for name in ("s", "t", "y", "z"):
            self.not_at(plan, "same", name)
        twins = (S, ("r", S[1]), ("out", "r"))
        self.assertIsNone(applied(twins, "same", "r"))
        self.not_at(plan_of(("y", ("both", "s", "r")), ("x", ("both", "r", "s"))), "same")


class Gather(Rule):
    def test_it(self):
        for window in (("even", 5), ("sliding", 6, 3)):
            for sums in ((), (COUNT,), (COUNT, ("e", "sum", N))):
                parts = ("s", ("k",), window, sums)
                self.comes(plan_of(("x", ("sum",) + parts)), "gather", (("a", ("gather",) + parts), ("x", ("finish", "a") + parts[1:])))

    def test_where_not(self):
        for step in (("sum", "s", ("k",), ("session", 5), (COUNT,)), SUM, ("sum", "s", (), ("even", 5), (COUNT, ("e", "greatest", N))),
                     ("keep", "s", E), JOIN):
            self.not_at(plan_of(("x", step)), "gather")
        parted = applied(plan_of(("x", ("sum", "s", (), ("even", 5), ()))), "gather", "x")
        for name in ("a", "x"):
            self.not_at(parted, "gather", name)


class Bound(Rule):
    def long(self, parts, e=ONE):
        """An expression of so many parts."""
        while parts_of(e) < parts - 1:
            e = ("plus", e, ONE)
        return e if parts_of(e) == parts else ("not", e)

    def test_two_hundred_parts(self):
        for first, second, awaited in ((100, 99, True), (100, 100, False), (198, 1, True), (199, 1, False)):
            plan = plan_of(("m", ("keep", "s", self.long(first))), ("x", ("keep", "m", self.long(second))))
            self.assertIs(applied(plan, "keepkeep", "x") is not None, awaited)

    def test_what_is_put_in(self):
        for many, awaited in ((18, 197), (19, 208)):
            e = ("column", "a")
            for _ in range(many - 1):
                e = ("plus", ("column", "a"), e)
            plan = plan_of(("m", ("make", "s", (("a", self.long(10)),))), ("x", ("keep", "m", e)))
            self.assertEqual(10 * many + many - 1, awaited)
            self.assertIs(applied(plan, "keepmake", "x") is not None, awaited <= 200)

    def test_at_just_two_hundred(self):
        made = (("a", self.long(3)), ("b", self.long(2)))
        a, b = ("column", "a"), ("column", "b")
        e = a
        for _ in range(49):
            e = ("plus", e, a)
        self.assertEqual(parts_of(e), 99)
        for inner, awaited in ((e, 199), (("not", e), 200), (("not", ("not", e)), 201)):
            plan = plan_of(("m", ("make", "s", made)), ("x", ("keep", "m", inner)))
            told = applied(plan, "keepmake", "x")
            self.assertIs(told is not None, awaited <= 200)
            if told is not None:
                self.assertEqual(parts_of(told[2][1][2]), awaited)
            plan = plan_of(("m", ("make", "s", made)), ("x", ("make", "m", (("q", b), ("r", inner)))))
            self.assertIs(applied(plan, "make", "x") is not None, awaited <= 200)


class Fresh(unittest.TestCase):
    def test_it(self):
        names = [chr(97 + k) for k in range(26)]
        for taken, awaited in (([], "a"), (["a"], "b"), (["b"], "a"), (["a", "c"], "b"), (names, "aa"), (names + ["aa", "ab"], "ac"),
                               (["aa"], "a"), (names + ["aa", "b" * 8], "ab")):
            plan = tuple((name, ("source", ())) for name in taken) + (("zz", ("source", ())), ("out", "zz"))
            self.assertEqual(fresh(plan), awaited)

    def test_two_names_with_a_gap(self):
        plan = plan_of(("a", ("both", "s", "s")), ("m", ("both", "a", "s")), ("c", ("keep", "m", E)), out="c")
        self.assertEqual([name for name, _ in applied(plan, "keepboth", "c")], ["s", "t", "a", "b", "d", "c", "out"])


def needs(plan, name):
    """The set of the needed columns of a step, looked up reader by reader."""
    columns = [column for column, _ in plan_columns(plan, name)]
    found = set(columns) if plan[-1][1] == name else set()
    for reader, step in plan[:-1]:
        if name not in steps_ahead(plan, reader):
            continue
        word = step[0]
        if word in ("both", "gather", "finish"):
            found |= set(columns)
        elif word == "keep":
            found |= needs(plan, reader) | set(columns_in(step[2]))
        elif word == "join":
            found |= set(step[3]) | (needs(plan, reader) & set(columns))
        else:
            told = step[2] if word == "make" else step[4]
            found |= {column for one in told for column in columns_in(one[-1])}
            found |= set(step[2]) if word == "sum" else set()
    return found


class Needed(unittest.TestCase):
    def test_each_reader(self):
        for step, awaited in ((("keep", "m", E), ("n",)), (("make", "m", (("a", F), ("b", ONE))), ("k",)), (("both", "m", "s"), ("k", "n")),
                              (("sum", "m", ("k",), ("even", 5), (COUNT,)), ("k",)), (("sum", "m", (), ("even", 5), (("c", "count", N),)), ("n",)),
                              (("join", "m", "t", ("k",), 0, 0), ("k",)), (("join", "t", "m", ("k",), 0, 0), ("k",)),
                              (("join", "m", "m", ("k", "n"), 0, 0), ("k", "n"))):
            plan = plan_of(("m", ("keep", "s", ONE)), ("x", step), out="t")
            self.assertEqual(needed(plan)["m"], awaited, step)
            self.assertEqual(needed(plan)["x"], ())
            self.assertEqual(sorted(needed(plan)), ["m", "s", "t", "x"])

    def test_out(self):
        plan = plan_of(("m", ("keep", "s", ONE)), ("x", ("keep", "m", E)))
        self.assertEqual(needed(plan), {"s": ("k", "n"), "t": (), "m": ("k", "n"), "x": ("k", "n")})
        self.assertEqual(needed(plan_of(("m", ("keep", "s", E)), out="s")), {"s": ("k", "n"), "t": (), "m": ()})

    def test_joins_ask_what_is_needed_of_them(self):
        plan = plan_of(("m", JOIN), ("x", ("make", "m", (("a", N),))))
        self.assertEqual(needed(plan), {"s": ("k", "n"), "t": ("k",), "m": ("n",), "x": ("a",)})
        plan = plan_of(("m", JOIN), ("x", ("make", "m", (("a", M),))))
        self.assertEqual(needed(plan), {"s": ("k",), "t": ("k", "m"), "m": ("m",), "x": ("a",)})

    def test_gather_and_finish(self):
        plan = applied(plan_of(("m", ("sum", "s", (), ("even", 5), (COUNT,))), ("x", ("make", "m", ()))), "gather", "m")
        self.assertEqual(needed(plan), {"s": ("k", "n"), "t": (), "a": ("from", "to", "c"), "m": (), "x": ()})

    def test_nothing_is_shared(self):
        plan = plan_of(("x", ("keep", "s", E)))
        found = needed(plan)
        found.clear()
        self.assertEqual(needed(plan), {"s": ("k", "n"), "t": (), "x": ("k", "n")})

    def test_of_many(self):
        draw = a_draw(51)
        for _ in range(300):
            plan = a_query(draw, draw.randint(1, 9), judge_query, columns_of)
            for plan in (plan, planned(plan)[0]):
                found = needed(plan)
                self.assertEqual(list(found), [name for name, _ in plan[:-1]])
                for name, names in found.items():
                    columns = [column for column, _ in plan_columns(plan, name)]
                    self.assertEqual(names, tuple(column for column in columns if column in needs(plan, name)))


def ways(plan, name):
    """The numbers of boths on all ways from a source to a step, itself too."""
    step = dict(plan)[name]
    ahead = steps_ahead(plan, name)
    return [many + (step[0] == "both") for of in ahead for many in ways(plan, of)] if ahead else [0]


def height(plan, name):
    step = dict(plan)[name]
    if step[0] == "source":
        return 0
    return max(height(plan, of) for of in steps_ahead(plan, name)) + (step[0] != "keep")


def ands(e):
    return (e[0] == "and") + sum(ands(member) for member in e[1:] if isinstance(member, tuple))


def plain_weight(plan):
    keeps, makes, foldable = [0] * 64, 0, 0
    for name, step in plan[:-1]:
        if step[0] == "keep":
            keeps[63 - height(plan, name)] += 1 + 2 * ands(step[2])
        if step[0] == "make":
            makes += 3 ** max(ways(plan, step[1]))
        expressions = [step[2]] if step[0] == "keep" else [one[-1] for one in step[-1]] if step[0] in ("make", "sum") else []
        foldable += any(folded(e) != e for e in expressions)
    return tuple(keeps) + (makes, foldable, len(plan))


class Weights(unittest.TestCase):
    def test_told_ones(self):
        self.assertEqual(weight_of((S, ("out", "s"))), (0,) * 66 + (2,))
        for pairs, awaited in (
            ((("x", ("keep", "s", E)),), (0, 0, 1, 0, 0, 4)), ((("x", ("keep", "s", ("and", ("and", E, F), ("not", ("and", E, F))))),), (0, 0, 7, 0, 0, 4)),
            ((("m", ("keep", "s", E)), ("x", ("keep", "m", E))), (0, 0, 2, 0, 0, 5)), ((("m", ("make", "s", MADE)), ("x", ("keep", "m", M))), (0, 1, 0, 1, 0, 5)),
            ((("m", JOIN), ("w", ("both", "m", "m")), ("x", ("keep", "w", E))), (1, 0, 0, 0, 0, 6)),
            ((("m", ("both", "s", "s")), ("w", ("both", "m", "s")), ("x", ("make", "w", ())), ("y", ("make", "m", ()))), (0, 0, 0, 12, 0, 7)),
            ((("m", ("keep", "s", ("plus", ONE, ONE))), ("x", ("make", "m", (("a", ("not", ONE)), ("b", ("not", ZERO)))))), (0, 0, 1, 1, 2, 5)),
        ):
            found = weight_of(plan_of(*pairs))
            self.assertEqual((len(found), found[:61], found[61:]), (67, (0,) * 61, awaited))

    def test_gather_and_finish_count_as_pairs_alone(self):
        plan = plan_of(("x", ("sum", "s", (), ("even", 5), (("c", "count", ("plus", ONE, ONE)),))))
        self.assertEqual(weight_of(plan)[64:], (0, 1, 4))
        self.assertEqual(weight_of(applied(plan, "gather", "x"))[64:], (0, 0, 5))

    def test_of_many(self):
        draw = a_draw(52)
        for _ in range(200):
            plan = a_query(draw, draw.randint(1, 9), judge_query, columns_of)
            for plan in (plan, planned(plan)[0]):
                self.assertEqual(weight_of(plan), plain_weight(plan))


class Unplanned(unittest.TestCase):
    def test_it(self):
        sums = ("sum", "s", ("k",), ("even", 5), (COUNT,))
        query = plan_of(("m", sums), ("w", ("sum", "m", (), ("sliding", 4, 2), ())), ("x", ("keep", "w", ONE)))
        self.assertEqual(unplanned(query), query)
        one = applied(query, "gather", "m")
        two = applied(one, "gather", "w")
        self.assertEqual([step[0] for _, step in two[:-1]], ["source", "source", "gather", "finish", "gather", "finish", "keep"])
        self.assertEqual((unplanned(one), unplanned(two)), (query, query))
        self.assertEqual(plan_columns(two, "m"), columns_of(query, "m"))
        self.assertEqual(plan_columns(two, "a"), columns_of(query, "m"))

    def test_two_finishes_of_one_gather(self):
        sums = ("sum", "s", ("k",), ("even", 5), (COUNT,))
        query = plan_of(("m", sums), ("w", sums), ("x", ("both", "m", "w")))
        parted = applied(applied(query, "gather", "m"), "gather", "w")
        one = applied(parted, "same", "b")
        self.assertEqual(pairs_of(one), (("a", ("gather",) + sums[1:]), ("m", ("finish", "a") + sums[2:]), ("w", ("finish", "a") + sums[2:]),
                                         ("x", ("both", "m", "w"))))
        self.assertEqual(unplanned(one), query)
        two = applied(one, "same", "w")
        self.assertEqual(unplanned(two), plan_of(("m", sums), ("x", ("both", "m", "m"))))
        self.assertEqual(unplanned(applied(plan_of(("m", sums), out="s"), "gather", "m")), plan_of(("m", sums), out="s"))
        left = applied(applied(plan_of(("m", sums), out="s"), "gather", "m"), "spare", "m")
        self.assertEqual((pairs_of(left), pairs_of(unplanned(left))), ((("a", ("gather",) + sums[1:]),), ()))


class OfMany(Rule):
    def test_any_rules_in_any_order(self):
        draw, seen = a_draw(53), {}
        for _ in range(900):
            query = plan = a_query(draw, draw.randint(2, 10), judge_query, columns_of)
            fed = [an_input(draw, query, sources_of, columns_of) for _ in range(2)]
            for _ in range(12):
                found = [(rule, name) for rule in WORDS for name, _ in plan if applied(plan, rule, name) is not None]
                if not found:
                    break
                rules = sorted({rule for rule, _ in found})
                rule = min(rules, key=lambda word: seen.get(word, 0)) if draw.random() < 0.5 else draw.choice(rules)
                name = draw.choice([name for other, name in found if other == rule])
                made = applied(plan, rule, name)
                self.check_plan(made)
                if rule in FIRST:
                    self.assertLess(weight_of(made), weight_of(plan), (rule, name, plan))
                self.assertEqual(plan_columns(made, made[-1][1]), plan_columns(plan, plan[-1][1]))
                plan = made
                seen[rule] = seen.get(rule, 0) + 1
            self.check_meaning(query, plan, fed)
        self.assertEqual(set(seen), set(WORDS))
        self.assertGreater(min(seen.values()), 5, seen)

    def check_plan(self, plan):
        names = []
        for name, step in plan[:-1]:
            self.assertNotIn(name, names + ["out"])
            self.assertTrue(all(of in names for of in steps_ahead(plan, name)))
            names.append(name)
        self.assertIn(plan[-1][1], names)

    def check_meaning(self, query, plan, feds):
        other = unplanned(plan)
        for fed in feds:
            fed = {name: fed[name] for name in sources_of(other)}
            self.assertEqual(meaning(other, fed), meaning(query, fed), (query, plan))
            self.assertEqual(whole(other, fed), whole(query, fed), (query, plan))
            self.assertEqual(marks_of(other, fed)[other[-1][1]], marks_of(query, fed)[query[-1][1]])


if __name__ == "__main__":
    unittest.main()
