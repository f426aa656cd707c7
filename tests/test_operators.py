import collections
import unittest

from oncestream import finishing, joins, windows
from oncestream.barriers import before, driven, finished
from oncestream.graphs import graph, inputs_of, tasks_of
from oncestream.marks import END
from oncestream.operators import operator_of
from oncestream.queries import columns_of, steps_ahead
from oncestream.rewritings import plan_columns
from tests.makers import a_draw
from tests.untouched import looked_at
from tests.weaving import a_channel, a_row, with_barriers

K, N, ONE = ("column", "k"), ("column", "n"), ("value", 1)
COLUMNS, OTHERS = (("k", "text"), ("n", "number")), (("m", "number"), ("k", "text"))
SUMS = (("c", "count", ONE), ("d", "sum", ("plus", N, ONE)))
MORE = SUMS + (("e", "least", K), ("f", "greatest", N))
PLAN = (
    ("s", ("source", COLUMNS)), ("t", ("source", OTHERS)), ("kept", ("keep", "s", N)), ("made", ("make", "s", (("n", ("plus", N, N)), ("k", ("joined", K, K))))),
    ("all", ("both", "s", "kept")), ("twice", ("both", "s", "s")), ("even", ("sum", "all", ("n", "k"), ("even", 5), MORE)), ("slide", ("sum", "s", (), ("sliding", 10, 4), MORE)),
    ("sess", ("sum", "s", ("k",), ("session", 3), MORE)), ("none", ("sum", "s", ("k",), ("even", 5), ())), ("part", ("gather", "s", ("k",), ("sliding", 6, 4), SUMS)),
    ("total", ("finish", "part", ("k",), ("sliding", 6, 4), SUMS)), ("near", ("join", "s", "t", ("k",), 2, 5)), ("cross", ("join", "t", "t", (), 0, 1)), ("out", "total"),
)
NAMES = [name for name, _ in PLAN]
NO_SOURCES = [name for name in NAMES if name not in ("s", "t")]


def a_graph(many):
    return graph(PLAN, {name: many for name in NAMES})


def columns_ahead(name, side=0):
    return plan_columns(PLAN, steps_ahead(PLAN, name)[side])


def input_row(draw, name, side, low):
    """A row for a step: of a finish one that its gather could give at a mark beyond low."""
    row = a_row(draw, columns_ahead(name, side), low)
    if name != "total":
        return row
    start = 4 * (low // 4) + 4
    return (start + 5, 1, row[2][:1] + (start, start + 6, draw.randint(-2, 2), draw.randint(-9, 9)))


def input_channel(draw, name, side, most, last=None):
    """A channel with rows for a step."""
    things, mark = [], 0
    for word, thing in a_channel(draw, columns_ahead(name, side), most, last):
        mark = thing if word == "mark" else mark
        things.append((word, thing) if word == "mark" else (word, input_row(draw, name, side, mark)))
    return things


class Operators(unittest.TestCase):
    def same(self, name, number, row, given):
        """A step without a state gives these rows, whatever input the row comes on."""
        for many in (1, 3):
            task = (name, many - 1)
            fresh, put, marked = operator_of(a_graph(many), task)
            self.assertEqual(fresh(), ())
            for i in range(len(inputs_of(a_graph(many), task))):
                self.assertEqual(looked_at(self, put, (), i, row), ((), tuple(given)))
            for mark in (0, 10, END):
                self.assertEqual(looked_at(self, marked, (), mark), ((), ()))

    def test_keep(self):
        for worth, is_kept in ((None, False), (0, False), (1, True), (-1, True), (7, True), (-(10 ** 20), True), (10 ** 20, True)):
            for sign in (1, -1):
                row = (3, sign, ("x", worth))
                self.same("kept", 0, row, [row] if is_kept else [])

    def test_keep_of_none_and_of_values(self):
        for e, is_kept in ((("value", None), False), (("value", 0), False), (("value", 5), True), (("below", ONE, N), True), (("below", N, ONE), False)):
            plan = (("s", ("source", COLUMNS)), ("x", ("keep", "s", e)), ("out", "x"))
            put = operator_of(graph(plan, {"s": 1, "x": 1, "out": 1}), ("x", 0))[1]
            self.assertEqual(put((), 0, (3, 1, ("x", 2))), ((), ((3, 1, ("x", 2)),) if is_kept else ()))

    def test_make(self):
        self.same("made", 0, (3, -1, ("x", 4)), [(3, -1, (8, "xx"))])
        self.same("made", 0, (0, 1, (None, None)), [(0, 1, (None, None))])
        self.same("made", 0, (10 ** 8, 1, ("abcdefgh", 0)), [(10 ** 8, 1, (0, "abcdefghabcd"))])
        plan = (("s", ("source", COLUMNS)), ("x", ("make", "s", ())), ("out", "x"))
        self.assertEqual(operator_of(graph(plan, {"s": 1, "x": 1, "out": 1}), ("x", 0))[1]((), 0, (3, 1, ("x", 2))), ((), ((3, 1, ()),)))

    def test_both_and_out(self):
        row = (3, -1, ("x", 4))
        for name in ("all", "twice"):
            self.same(name, 0, row, [row])
        self.same("out", 0, (9, 1, ("x", 0, 10, 1, 5)), [(9, 1, ("x", 0, 10, 1, 5))])

    def run_both(self, name, pairs, seed):
        """The operator and plain functions (fresh, put, marked) do the same."""
        draw = a_draw(seed)
        fresh, put, marked = operator_of(a_graph(2), (name, 1))
        for _ in range(20):
            state, mark = fresh(), 0
            self.assertEqual(state, pairs[0]())
            for _ in range(25):
                if draw.random() < 0.25:
                    mark += draw.randint(1, 5)
                    found, (awaited, rows) = looked_at(self, marked, state, mark), pairs[2](state, mark)
                else:
                    i = draw.randrange(len(inputs_of(a_graph(2), (name, 1))))
                    row = input_row(draw, name, inputs_of(a_graph(2), (name, 1))[i][1], mark)
                    found, (awaited, rows) = looked_at(self, put, state, i, row), pairs[1](state, i, row)
                self.assertEqual(found, (awaited, tuple(rows)))
                state = found[0]

    def test_sums_and_gathers(self):
        for seed, name in enumerate(("even", "slide", "sess", "none", "part")):
            step = ("sum",) + dict(PLAN)[name][1:]
            columns = columns_ahead(name)
            self.run_both(name, (windows.fresh, lambda state, i, row: windows.put(columns, step, state, row), lambda state, mark: windows.marked(step, state, mark)), 130 + seed)

    def test_finish(self):
        self.run_both("total", (finishing.finish_fresh, lambda state, i, row: (finishing.finish_put(state, row, 1), ()), finishing.finish_marked), 136)
        for keys in ((), ("k", "n")):
            step = ("s", keys, ("even", 5), SUMS)
            plan = (("s", ("source", COLUMNS)), ("g", ("gather",) + step), ("x", ("finish", "g") + step[1:]), ("out", "x"))
            put = operator_of(graph(plan, {"s": 1, "g": 1, "x": 1, "out": 1}), ("x", 0))[1]
            row = (4, 1, (None,) * len(keys) + (0, 5, 2, 7))
            self.assertEqual(put((), 0, row), ((((None,) * len(keys) + (0, 5), (2, 7)),), ()))
            self.assertEqual(put(put((), 0, row)[0], 0, row), ((((None,) * len(keys) + (0, 5), (4, 14)),), ()))

    def test_joins(self):
        for seed, name in enumerate(("near", "cross")):
            left, right = columns_ahead(name, 0), columns_ahead(name, 1)
            join = joins.join_of(left, right, *dict(PLAN)[name][3:])
            # With two tasks ahead on each side the first two inputs are of side 0, the others of side 1.
            self.run_both(name, (joins.fresh, lambda state, i, row: joins.put(join, state, i // 2, row), lambda state, mark: joins.marked(join, state, mark)), 137 + seed)

    def test_an_input_of_each_side_of_a_join(self):
        found = graph(PLAN, {name: 3 if name == "t" else 1 for name in NAMES})
        fresh, put, marked = operator_of(found, ("near", 0))
        state, rows = put(fresh(), 0, (3, 1, ("x", 4)))
        self.assertEqual((state, rows), ((0, (((3, 1, ("x", 4)), 1),), ()), ()))
        for i in (1, 2, 3):
            after, rows = put(state, i, (8, -1, (9, "x")))
            self.assertEqual((after, rows), ((0, (((3, 1, ("x", 4)), 1),), (((8, -1, (9, "x")), 1),)), ((8, -1, ("x", 4, 9)),)))
        self.assertEqual(marked(after, 9), ((9, (), (((8, -1, (9, "x")), 1),)), ()))

    def test_pairs_of_a_state_and_a_tuple(self):
        draw = a_draw(140)
        for name in NO_SOURCES:
            found = a_graph(2)
            for task in (task for task in tasks_of(found) if task[0] == name):
                operator = operator_of(found, task)
                self.assertEqual((type(operator), len(operator)), (tuple, 3))
                fresh, put, marked = operator
                state = fresh()
                for i, channel in enumerate(inputs_of(found, task)):
                    for _ in range(3):
                        told = put(state, i, input_row(draw, name, channel[1], 0))
                        self.assertEqual([type(one) for one in told + (told,)], [tuple] * 3, name)
                        state = told[0]
                for mark in (5, 20, END):
                    told = marked(state, mark)
                    self.assertEqual([type(one) for one in told + (told,)], [tuple] * 3, name)
                    state = told[0]

    def test_steps_on_which_out_does_not_hang(self):
        self.assertEqual(steps_ahead(PLAN, "out"), ("total",))
        self.same("kept", 0, (3, 1, ("x", 1)), [(3, 1, ("x", 1))])

    def test_of_a_query(self):
        query = PLAN[:3] + (("x", ("sum", "kept", ("k",), ("even", 5), SUMS)), ("out", "x"))
        self.assertEqual(columns_of(query, "x")[:1], (("k", "text"),))
        fresh, put, marked = operator_of(graph(query, {"s": 1, "t": 1, "kept": 2, "x": 1, "out": 1}), ("x", 0))
        state = put(put(fresh(), 0, (3, 1, ("x", 4)))[0], 1, (4, 1, ("x", None)))[0]
        self.assertEqual(marked(state, 5)[1], ((4, 1, ("x", 0, 5, 2, 5)),))


class RunAlone(unittest.TestCase):
    """Whatever is picked, each kind of operator keeps the same, and sends the same ahead of each barrier."""

    def ahead_of_barriers(self, sent, numbers):
        """For each number the bag of the rows that are sent ahead of its barrier, and the last mark."""
        found = {}
        for n in numbers:
            some = before(sent, n)
            marks = [thing[1] for thing in some if thing[0] == "mark"]
            found[n] = (collections.Counter(thing[1] for thing in some if thing[0] == "row"), marks[-1:] or [0])
        return found

    def test_all_kinds(self):
        for at, name in enumerate(NO_SOURCES):
            draw = a_draw(150 + at)
            for _ in range(12):
                found = a_graph(draw.choice((1, 1, 2)))
                operator, channels = operator_of(found, (name, 0)), inputs_of(found, (name, 0))
                numbers = draw.choice(((), (1,), (1, 2), (3, 4, 9)))
                inputs = tuple(with_barriers(draw, input_channel(draw, name, channel[1], 9, draw.choice((None, 20, END))), numbers) for channel in channels)
                many = sum(len(things) for things in inputs)
                whole = finished(operator, inputs)
                runs = [whole] + [driven(operator, inputs, tuple(draw.randrange(10 ** 9) for _ in range(many))) for _ in range(3)]
                for sent, kept, state in runs:
                    self.assertEqual((kept, state), whole[1:])
                    self.assertEqual([n for n, _ in kept], list(numbers))
                    self.assertEqual(self.ahead_of_barriers(sent, numbers + (0,)), self.ahead_of_barriers(whole[0], numbers + (0,)))
                for n, state in whole[1]:
                    cut = finished(operator, tuple(before(things, n) for things in inputs))
                    self.assertEqual(cut[2], state)
                    self.assertEqual(self.ahead_of_barriers(cut[0], (n,)), self.ahead_of_barriers(whole[0], (n,)))
                    self.assertEqual([m for m, _ in cut[1]], [m for m in numbers if m < n])


if __name__ == "__main__":
    unittest.main()
