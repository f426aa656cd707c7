import copy
import unittest

from oncestream.meaning import marks_of, meaning, whole
from oncestream.planner import canonical, judge_plan, look_alike, planned
from oncestream.queries import columns_of, judge_query, sources_of
from oncestream.rewritings import applied, unplanned
from tests.makers import ANYTHING, a_draw, a_query, an_input, exchanged, within
from tests.test_rewritings import COUNT, E, F, JOIN, K, M, N, ONE, S, T, TWO, plan_of

LISTS = (
    ("spare", "fold", "all", "split", "make", "keepmake", "keepboth", "makeboth", "keepsum", "keepkeys", "keepleft",
     "keepright"),
    ("drop", "narrow", "make"),
    ("keepkeep", "same", "gather"),
)


def plainly_planned(query):
    """The plan and the paper, straight from the words of the document."""
    plan, paper = query, ()
    for rules in LISTS:
        while True:
            steps = [(rule, name) for rule in rules for name, _ in plan[:-1] if applied(plan, rule, name) is not None]
            if not steps:
                break
            plan, paper = applied(plan, *steps[0]), paper + (steps[0],)
    return plan, paper


def many(seed, times, steps=10):
    draw = a_draw(seed)
    for _ in range(times):
        yield draw, a_query(draw, draw.randint(1, steps), judge_query, columns_of)


class Planned(unittest.TestCase):
    def test_nothing_to_do(self):
        for query in ((S, ("out", "s")), plan_of(("x", ("keep", "s", E))), plan_of(("x", ("both", "s", "s"))), plan_of(("x", JOIN))):
            self.assertEqual(planned(query), (query, ()))

    def test_the_sequence_of_rules_and_steps(self):
        for pairs, paper in (
            ((("y", ("keep", "s", ("and", E, F))), ("z", ("both", "s", "s")), ("x", ("keep", "y", ("plus", ONE, ONE)))),
             (("spare", "z"), ("fold", "x"), ("all", "x"), ("split", "y"), ("keepkeep", "y"))),
            ((("y", ("keep", "s", ("and", E, F))), ("z", ("keep", "s", ("and", F, E))), ("x", ("both", "y", "z"))),
             (("split", "y"), ("split", "z"), ("keepkeep", "y"), ("keepkeep", "z"))),
            ((("x", ("sum", "s", (), ("even", 5), (COUNT,))), ("w", ("keep", "s", E))),
             (("spare", "w"), ("narrow", "s"), ("gather", "x"))),
            ((("m", JOIN), ("x", ("keep", "m", ("and", ("and", F, E), ("below", ONE, M))))),
             (("split", "x"), ("split", "a"), ("keepkeys", "b"), ("keepleft", "a"), ("keepright", "x"), ("keepkeep", "e"), ("keepkeep", "b"))),
        ):
            self.assertEqual(planned(plan_of(*pairs))[1], paper)
            self.assertEqual(planned(plan_of(*pairs)), plainly_planned(plan_of(*pairs)))

    def test_told_plans(self):
        twin = ("keep", "s", E)
        self.assertEqual(planned(plan_of(("y", twin), ("z", twin), ("x", ("both", "y", "z")))),
                         (plan_of(("y", twin), ("x", ("both", "y", "y"))), (("same", "z"),)))
        made = ("make", "s", (("k", K), ("m", ("plus", N, ONE))))
        self.assertEqual(planned(plan_of(("y", made), ("x", ("sum", "y", ("k",), ("even", 5), (COUNT,))))),
                         (plan_of(("y", ("make", "s", (("k", K),))), ("a", ("gather", "y", ("k",), ("even", 5), (COUNT,))),
                                  ("x", ("finish", "a", ("k",), ("even", 5), (COUNT,)))), (("drop", "y"), ("gather", "x"))))
        query = (S, ("x", ("sum", "s", (), ("session", 5), (("c", "sum", N),))), ("out", "x"))
        self.assertEqual(planned(query), ((S, ("a", ("make", "s", (("n", N),))), ("x", ("sum", "a") + query[1][1][2:]), ("out", "x")),
                                          (("narrow", "s"),)))

    def test_a_make_that_fits_when_columns_are_dropped(self):
        long = N
        for _ in range(12):
            long = ("plus", long, ONE)
        a, total = ("column", "a"), ("column", "a")
        for _ in range(9):
            total = ("plus", total, a)
        sums = (("c", "sum", ("column", "u")),)
        query = plan_of(("m", ("make", "s", (("a", long),))), ("w", ("make", "m", (("u", a), ("v", total)))),
                        ("x", ("sum", "w", (), ("session", 5), sums)))
        self.assertIsNone(judge_query(query))
        self.assertEqual(planned(query), (plan_of(("w", ("make", "s", (("u", long),))), ("x", ("sum", "w", (), ("session", 5), sums))),
                                          (("drop", "w"), ("make", "w"))))

    def test_of_many(self):
        for draw, query in many(61, 250):
            before = copy.deepcopy(query)
            plan, paper = planned(query)
            self.assertEqual((plan, paper), plainly_planned(query))
            self.assertEqual(query, before)
            self.assertIsNone(judge_plan(query, (plan, paper)))
            for rules in LISTS[2:]:
                self.assertTrue(all(applied(plan, rule, name) is None for rule in rules for name, _ in plan[:-1]))
            other = unplanned(plan)
            for _ in range(2):
                fed = an_input(draw, query, sources_of, columns_of)
                self.assertEqual(meaning(other, fed), meaning(query, fed))
                self.assertEqual(whole(other, fed), whole(query, fed))
                self.assertEqual(marks_of(other, fed)[other[-1][1]], marks_of(query, fed)[query[-1][1]])

    def test_the_greatest_queries(self):
        pairs = [S]
        for one, other in zip("sabcdefghi", "abcdefghij"):
            pairs.append((other, ("both", one, one)))
        query = tuple(pairs) + (("x", ("keep", "j", ("and", E, F))), ("out", "x"))
        plan, paper = planned(query)
        self.assertIsNone(judge_plan(query, (plan, paper)))
        fed = {"s": ((("row", 3, 1, ("x", 5)), ("row", 3, 1, ("y", 5)), ("mark", 5)),)}
        self.assertEqual(meaning(unplanned(plan), fed), {(3, 1, ("x", 5)): 2 ** 10})


class Judging(unittest.TestCase):
    QUERY = plan_of(("y", ("keep", "s", ("and", E, ("and", F, ("plus", ONE, ONE))))), ("x", ("sum", "y", ("k",), ("even", 5), (COUNT,))))

    def check(self, value, awaited, query=None):
        before = copy.deepcopy(value)
        self.assertEqual(judge_plan(query or self.QUERY, value), awaited, value)
        self.assertEqual(value, before)

    def test_right_ones(self):
        plan, paper = planned(self.QUERY)
        self.check((plan, paper), None)
        self.check((self.QUERY, ()), None)
        made = applied(applied(self.QUERY, "gather", "x"), "split", "y")
        self.check((made, (("gather", "x"), ("split", "y"))), None)

    def test_forms(self):
        plan, paper = planned(self.QUERY)
        for value in (None, True, 5, "ab", (), (plan,), (plan, paper, ()), [plan, paper], {plan: paper}, (plan, list(paper)), (plan, None),
                      (plan, "ab"), (plan, ("ab",)), (plan, (["fold", "y"],)), (plan, (("fold",),)), (plan, (("fold", "y", 1),)), (plan, ((),)),
                      (None, [paper]), (plan, paper + (None,)), (plan, paper + (5,)), (plan, {})):
            self.check(value, ("form",))

    def test_rules(self):
        plan, paper = planned(self.QUERY)
        for wrong in (("none", "y"), ("fold", "nowhere"), ("fold", "out"), ("fold", "x"), (None, "y"), ("fold", None), (5, 5), ([], "y"),
                      ("fold", []), ({}, {}), (("fold",), ("y",)), ("Fold", "y"), (True, False), (within(20), "y")):
            for at in range(len(paper) + 1):
                self.check((plan, paper[:at] + (wrong,) + paper[at:]), ("rule", at))
                self.check((None, paper[:at] + (wrong, wrong)), ("rule", at))
        self.check((plan, paper + paper[-1:]), ("rule", len(paper)))

    def test_each_pair_of_a_paper_exchanged(self):
        rules = [rule for rules in LISTS for rule in rules] + ["none"]
        plan, paper = planned(self.QUERY)
        names = [name for name, _ in plan] + ["z"]
        for at in range(len(paper)):
            for rule in rules:
                for name in names:
                    changed = paper[:at] + ((rule, name),) + paper[at + 1:]
                    self.check((plan, changed), self.plainly_judged(plan, changed))

    def plainly_judged(self, plan, paper):
        made = self.QUERY
        for at, (rule, name) in enumerate(paper):
            made = applied(made, rule, name)
            if made is None:
                return ("rule", at)
        return None if made == plan else ("plan",)

    def test_another_plan(self):
        plan, paper = planned(self.QUERY)
        for wrong in (None, 5, (), [], plan[:-1], plan + (("out", "x"),), list(plan), self.QUERY, "plan", {}, True):
            self.check((wrong, paper), ("plan",))
        for other in (None, True, False, 10 ** 59, -10 ** 400, "zz", ("a",), [], {}, within(20)):
            for wrong in exchanged(plan, lambda value: [other]):
                self.check((wrong, paper), None if self.is_same(wrong, plan) else ("plan",))
        for wrong in exchanged(plan, lambda value: [list(value)] if isinstance(value, tuple) else []):
            self.check((wrong, paper), ("plan",))

    def test_texts_and_tuples_of_their_signs(self):
        plan, paper = planned(self.QUERY)
        for wrong in exchanged(plan, lambda value: [tuple(value), list(value), None] if isinstance(value, str) else []):
            self.check((wrong, paper), ("plan",))

    def is_same(self, one, other):
        return repr(one) == repr(other)

    def test_one_and_true(self):
        query = plan_of(("x", ("make", "s", (("a", ONE), ("b", ("value", 0))))))
        for wrong in exchanged(query, lambda value: [True] if value == 1 else [False] if value == 0 else []):
            self.assertEqual(wrong, query)
            self.check((wrong, ()), ("plan",), query)
        self.check((query, ()), None, query)

    def test_anything(self):
        for value in ANYTHING + (within(30),):
            is_pair = value == ("source", ()) and isinstance(value, tuple)
            self.check(value, ("plan",) if is_pair else ("form",))
            is_paper = isinstance(value, tuple) and all(isinstance(pair, tuple) and len(pair) == 2 for pair in value)
            awaited = ("rule", 0) if is_paper and value else None if is_paper else ("form",)
            self.check((self.QUERY, value), awaited)
            self.check((value, ()), ("plan",))


class Canonical(unittest.TestCase):
    def test_order_and_names(self):
        plan = (T, S, ("q", ("keep", "t", M)), ("p", ("keep", "s", E)), ("spare", ("both", "p", "p")), ("r", ("join", "p", "q", ("k",), 1, 2)),
                ("x", ("both", "r", "r")), ("out", "x"))
        self.assertEqual(canonical(plan), (S, ("a", ("keep", "s", E)), T, ("b", ("keep", "t", M)), ("c", ("join", "a", "b", ("k",), 1, 2)),
                                           ("d", ("both", "c", "c")), ("out", "d")))
        self.assertEqual(canonical(plan[:-1] + (("out", "t"),)), (T, ("out", "t")))

    def test_sources_with_names_such_as_a_and_b(self):
        plan = (("a", S[1]), ("b", T[1]), ("c", ("keep", "a", E)), ("d", ("join", "c", "b", ("k",), 1, 2)), ("e", ("keep", "d", F)), ("out", "e"))
        self.assertEqual(canonical(plan), (("a", S[1]), ("c", ("keep", "a", E)), ("b", T[1]), ("d", ("join", "c", "b", ("k",), 1, 2)),
                                           ("e", ("keep", "d", F)), ("out", "e")))
        spare = (("a", S[1]), ("b", T[1]), ("c", ("keep", "b", M)), ("out", "c"))
        self.assertEqual(canonical(spare), (("b", T[1]), ("a", ("keep", "b", M)), ("out", "a")))

    def test_more_than_twenty_six_steps(self):
        letters = [chr(97 + k) for k in range(26)] + ["aa", "ab", "ac", "ad"]
        for source in ("s", "zz", "aa"):
            pairs, of = [(source, S[1])], source
            for k in range(28):
                pairs.append(("y" + chr(97 + k // 26) + chr(97 + k % 26), ("keep", of, E)))
                of = pairs[-1][0]
            names = [name for name, _ in canonical(tuple(pairs) + (("out", of),))]
            self.assertEqual(names, [source] + [name for name in letters if name != source][:28] + ["out"])

    def test_each_step_once(self):
        pairs = [S]
        for one, other in zip("sabcdefghijklmnopqr", "abcdefghijklmnopqrt"):
            pairs.append((other, ("both", one, one)))
        plan = tuple(pairs) + (("out", "t"),)
        self.assertEqual([step for _, step in canonical(plan)[:3]], [S[1], ("both", "s", "s"), ("both", "a", "a")])
        self.assertEqual(len(canonical(plan)), len(plan))

    def test_of_many(self):
        for draw, query in many(62, 200):
            for plan in (query, planned(query)[0]):
                found = canonical(plan)
                self.assertEqual(canonical(found), found)
                self.assertEqual([step[0] for _, step in found[:-1]].count("source"), len(sources_of(found)))
                self.assertTrue(set(sources_of(found)) <= set(sources_of(plan)))
                one, other = unplanned(plan), unplanned(found)
                fed = an_input(draw, one, sources_of, columns_of)
                self.assertEqual(meaning(other, {name: fed[name] for name in sources_of(other)}), meaning(one, fed))


def shuffled(draw, query):
    """The query with other names of steps, sources apart, and its steps in another order."""
    names = {name: "z" + name if step[0] != "source" else name for name, step in query[:-1]}
    left, pairs = list(query[:-1]), []
    while left:
        free = [pair for pair in left if all(of in [name for name, _ in pairs] for of in made_of(pair[1]))]
        pair = draw.choice(free)
        left.remove(pair)
        pairs.append(pair)
    return tuple((names[name], renamed(step, names)) for name, step in pairs) + (("out", names[query[-1][1]]),)


def made_of(step):
    return () if step[0] == "source" else step[1:3] if step[0] in ("both", "join") else step[1:2]


def renamed(step, names):
    many_names = len(made_of(step))
    return step[:1] + tuple(names[of] for of in made_of(step)) + step[1 + many_names:]


class LookAlike(unittest.TestCase):
    def test_other_names_and_another_order(self):
        alike = 0
        for draw, query in many(63, 200):
            other = shuffled(draw, query)
            self.assertIsNone(judge_query(other))
            self.assertIs(look_alike(query, other), look_alike(other, query))
            if look_alike(query, other):
                alike += 1
            self.assertIs(look_alike(query, query), True)
            fed = an_input(draw, query, sources_of, columns_of)
            self.assertEqual(meaning(query, fed), meaning(other, fed))
        self.assertGreater(alike, 150)

    def test_steps_on_which_nothing_hangs(self):
        query = plan_of(("x", ("keep", "s", E)))
        for more in (("y", ("keep", "s", F)), ("y", ("join", "x", "t", ("k",), 0, 0)), ("y", ("sum", "s", (), ("even", 5), ()))):
            self.assertIs(look_alike(query, query[:-1] + (more,) + query[-1:]), True)
        self.assertIs(look_alike(query, (S, ("x", ("keep", "s", E)), ("out", "x"))), True)

    def test_what_comes_to_the_same(self):
        kept = ("keep", "y", ("and", E, F))
        one = plan_of(("y", ("keep", "s", E)), ("x", ("keep", "y", F)))
        self.assertIs(look_alike(one, plan_of(("x", ("keep", "s", ("and", E, F))))), True)
        self.assertIs(look_alike(one, plan_of(("y", ("keep", "s", ONE)), ("x", kept))), True)
        self.assertIs(look_alike(one, plan_of(("y", ("keep", "s", F)), ("x", ("keep", "y", E)))), False)

    def test_unlike_ones(self):
        query = plan_of(("x", ("keep", "s", E)))
        for other in (plan_of(("x", ("keep", "s", F))), plan_of(out="s"), (("r", S[1]), ("x", ("keep", "r", E)), ("out", "x")),
                      plan_of(("x", ("keep", "s", ("below", TWO, N)))), plan_of(("x", ("both", "s", "s")))):
            self.assertIs(look_alike(query, other), False)

    def test_alike_ones_mean_the_same(self):
        draw, found = a_draw(64), {}
        for _ in range(600):
            query = a_query(draw, draw.randint(2, 4), judge_query, columns_of)
            found.setdefault(canonical(planned(query)[0]), []).append(query)
        groups = [queries for queries in found.values() if len(set(queries)) > 1]
        self.assertGreater(len(groups), 3)
        for queries in groups:
            for other in queries[1:]:
                self.assertIs(look_alike(queries[0], other), True)
                fed = an_input(draw, queries[0], sources_of, columns_of)
                if set(sources_of(other)) == set(fed):
                    self.assertEqual(meaning(queries[0], fed), meaning(other, fed))


if __name__ == "__main__":
    unittest.main()
