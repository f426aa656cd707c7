import itertools
import string
import unittest

from oncestream.graphs import GROUPS, channels_of, graph, group, inputs_of, outputs_of, owner, route, tasks_of
from oncestream.planner import planned
from oncestream.queries import columns_of, judge_query, steps_ahead
from oncestream.rewritings import plan_columns
from tests.makers import a_draw, a_query
from tests.untouched import looked_at

K, N, ONE = ("column", "k"), ("column", "n"), ("value", 1)
S = ("s", ("source", (("k", "text"), ("n", "number"))))
T = ("t", ("source", (("m", "number"), ("k", "text"), ("n", "number"))))
SUMS = (("c", "count", ONE),)
# One step of each kind; "spare" is one on which "out" does not hang, "twice" and "self" name one step twice.
PLAN = (
    S, T, ("kept", ("keep", "s", ("below", ONE, N))), ("made", ("make", "t", (("k", K), ("n", N)))), ("all", ("both", "kept", "made")),
    ("twice", ("both", "all", "all")), ("near", ("join", "t", "twice", ("n", "k"), 2, 5)), ("self", ("join", "s", "s", (), 0, 1)),
    ("spare", ("sum", "near", ("n", "k"), ("session", 5), SUMS)), ("part", ("gather", "twice", ("n",), ("even", 10), SUMS)),
    ("total", ("finish", "part", ("n",), ("even", 10), SUMS)), ("none", ("sum", "s", (), ("even", 10), SUMS)), ("out", "total"),
)
NAMES = [name for name, _ in PLAN]
SIGNS = " " + string.digits + "-_" + string.ascii_lowercase + string.ascii_uppercase


def plain_ahead(plan, name):
    step = dict(plan)[name]
    if name == "out":
        return [step]
    return {"source": [], "both": list(step[1:3]), "join": list(step[1:3])}.get(step[0], [step[1]])


def plain_channels(plan, workers):
    found = []
    for name, _ in plan:
        for number in range(workers[name]):
            for side, ahead in enumerate(plain_ahead(plan, name)):
                for sender in range(workers[ahead]):
                    found.append(((ahead, sender), side, (name, number)))
    return found


def plain_group(key):
    c = 7
    for value in key:
        if value is None:
            more = 1
        elif isinstance(value, str):
            more = 5 + sum(j * (SIGNS.index(sign) + 1) for j, sign in zip(range(1, 13), value))
        else:
            more = 2 + 2 * value if value >= 0 else 1 - 2 * value
        c = (c * 131 + more) % 1000003
    return c % 16


class Graphs(unittest.TestCase):
    def some_workers(self, plan, seed):
        draw = a_draw(seed)
        for _ in range(12):
            yield {name: draw.randint(1, 4) for name, _ in plan}

    def test_graph(self):
        workers = {"t": 2, "out": 1, "s": 4}
        plan = (S, T, ("out", "s"))
        self.assertEqual(looked_at(self, graph, plan, workers), (plan, (("out", 1), ("s", 4), ("t", 2))))

    def test_tasks(self):
        plan = (S, T, ("out", "s"))
        self.assertEqual(looked_at(self, tasks_of, graph(plan, {"s": 1, "t": 3, "out": 2})),
                         [("s", 0), ("t", 0), ("t", 1), ("t", 2), ("out", 0), ("out", 1)])
        for workers in self.some_workers(PLAN, 51):
            self.assertEqual(tasks_of(graph(PLAN, workers)), [(name, number) for name in NAMES for number in range(workers[name])])

    def test_each_number_of_workers(self):
        plan = (S, ("x", ("both", "s", "s")), ("out", "x"))
        for one, two, three in itertools.product(range(1, 5), repeat=3):
            found = graph(plan, {"s": one, "x": two, "out": three})
            self.assertEqual(channels_of(found), plain_channels(plan, {"s": one, "x": two, "out": three}))
            self.assertEqual(len(channels_of(found)), 2 * one * two + two * three)

    def test_channels(self):
        plan = (S, ("x", ("join", "s", "s", ("k",), 0, 1)), ("out", "x"))
        found = graph(plan, {"s": 2, "x": 2, "out": 1})
        a, b, x, y, out = ("s", 0), ("s", 1), ("x", 0), ("x", 1), ("out", 0)
        told = [(a, 0, x), (b, 0, x), (a, 1, x), (b, 1, x), (a, 0, y), (b, 0, y), (a, 1, y), (b, 1, y), (x, 0, out), (y, 0, out)]
        self.assertEqual(looked_at(self, channels_of, found), told)
        self.assertEqual(looked_at(self, inputs_of, found, y), told[4:8])
        self.assertEqual(looked_at(self, outputs_of, found, b), [told[1], told[3], told[5], told[7]])
        self.assertEqual((inputs_of(found, a), outputs_of(found, out), inputs_of(found, out)), ([], [], told[8:]))

    def test_channels_of_all_steps(self):
        for workers in self.some_workers(PLAN, 52):
            found = graph(PLAN, workers)
            awaited = plain_channels(PLAN, workers)
            self.assertEqual(channels_of(found), awaited)
            for task in tasks_of(found):
                self.assertEqual(inputs_of(found, task), [channel for channel in awaited if channel[2] == task])
                self.assertEqual(outputs_of(found, task), [channel for channel in awaited if channel[0] == task])

    def test_steps_on_which_out_does_not_hang(self):
        found = graph(PLAN, {name: 2 for name in NAMES})
        self.assertIn(("spare", 1), tasks_of(found))
        self.assertEqual(inputs_of(found, ("spare", 1)), [(("near", 0), 0, ("spare", 1)), (("near", 1), 0, ("spare", 1))])
        self.assertEqual(outputs_of(found, ("spare", 1)), [])
        self.assertIn((("s", 1), 0, ("none", 0)), outputs_of(found, ("s", 1)))

    def test_several_readers(self):
        found = graph(PLAN, {name: 1 for name in NAMES})
        self.assertEqual([channel[1:] for channel in outputs_of(found, ("s", 0))],
                         [(0, ("kept", 0)), (0, ("self", 0)), (1, ("self", 0)), (0, ("none", 0))])
        self.assertEqual([channel[1:] for channel in outputs_of(found, ("t", 0))], [(0, ("made", 0)), (0, ("near", 0))])
        self.assertEqual([channel[1:] for channel in outputs_of(found, ("twice", 0))], [(1, ("near", 0)), (0, ("part", 0))])

    def test_out_reads_what_others_read_too(self):
        plan = (S, ("x", ("keep", "s", ONE)), ("out", "s"))
        found = graph(plan, {"s": 1, "x": 1, "out": 2})
        self.assertEqual([channel[2] for channel in outputs_of(found, ("s", 0))], [("x", 0), ("out", 0), ("out", 1)])

    def test_of_many_queries_and_their_plans(self):
        draw = a_draw(53)
        for _ in range(30):
            query = a_query(draw, draw.randint(1, 8), judge_query, columns_of)
            for plan in (query, planned(query)[0]):
                workers = {name: draw.randint(1, 3) for name, _ in plan}
                self.assertEqual(channels_of(graph(plan, workers)), plain_channels(plan, workers))


class Groups(unittest.TestCase):
    def test_told_groups(self):
        for key, awaited in (((), 7), ((None,), 6), ((0,), 7), ((1,), 9), ((-1,), 8), ((2,), 11), ((-2,), 10), (("",), 10), ((" ",), 11),
                             (("0",), 12), (("a",), 8), (("Z",), 11), (("ab",), 6), (("ba",), 5)):
            self.assertEqual(group(key), awaited, key)
        self.assertEqual(GROUPS, 16)

    def test_each_sign(self):
        self.assertEqual(len(SIGNS), 65)
        for place, sign in enumerate(SIGNS, 1):
            self.assertEqual(group((sign,)), (7 * 131 + 5 + place) % 16, sign)
            self.assertEqual(group(("a" + sign,)), (7 * 131 + 5 + 14 + 2 * place) % 16, sign)

    def test_of_any_values(self):
        values = (None, 0, 1, -1, 5, -5, 99, 10 ** 9, -10 ** 9, 10 ** 59, -10 ** 59, 10 ** 400, "", " ", "a", "Z", "a_B-1 ", "ZZZZZZZZZZZZ", "abcdefghijkl")
        for many in (0, 1, 2, 3):
            for key in itertools.product(values if many < 3 else values[::3], repeat=many):
                self.assertEqual(group(key), plain_group(key))
        eight = ("abcdefghijkl", 10 ** 59, None, -3, "Z", "", 0, "b")
        self.assertEqual(group(eight), plain_group(eight))

    def test_all_groups_are_there(self):
        self.assertEqual({group((sign,)) for sign in SIGNS}, set(range(16)))
        self.assertEqual({group((n, sign)) for n in range(4) for sign in SIGNS[:8]}, set(range(16)))

    def test_owner(self):
        for workers, awaited in (
            (1, [0] * 16), (2, [0] * 8 + [1] * 8), (3, [0] * 6 + [1] * 5 + [2] * 5), (4, [0] * 4 + [1] * 4 + [2] * 4 + [3] * 4),
        ):
            self.assertEqual([owner(g, workers) for g in range(16)], awaited)


class Routes(unittest.TestCase):
    VALUES = [(k, n) for k in (None, "", "a", "b", "Z") for n in (None, -1, 0, 7)]

    def routes(self, name, side, make_key, make_values=lambda k, n: (k, n)):
        """Rows for the step go to the owner of this key's group, whichever task sends them."""
        for workers in range(1, 5):
            found = graph(PLAN, {other: workers if other == name else 4 for other in NAMES})
            for sender in range(4):
                for k, n in self.VALUES:
                    awaited = plain_group(make_key(k, n)) * workers // 16
                    ahead = steps_ahead(PLAN, name)[side]
                    self.assertEqual(route(found, (ahead, sender), name, side, make_values(k, n)), awaited)

    def test_to_a_sum_with_keys_in_another_order(self):
        self.assertEqual(plan_columns(PLAN, "near"), (("m", "number"), ("k", "text"), ("n", "number")))
        self.routes("spare", 0, lambda k, n: (n, k), lambda k, n: (5, k, n))

    def test_to_a_sum_without_keys(self):
        self.routes("none", 0, lambda k, n: ())

    def test_to_a_finish(self):
        self.routes("total", 0, lambda k, n: (n,), lambda k, n: (n, 0, 10, 3))

    def test_from_each_side_of_a_join(self):
        self.routes("near", 0, lambda k, n: (n, k), lambda k, n: (9, k, n))
        self.routes("near", 1, lambda k, n: (n, k))
        self.routes("self", 0, lambda k, n: ())
        self.routes("self", 1, lambda k, n: ())

    def test_by_the_number_of_the_sender(self):
        values = {"made": (1, "a", 2), "part": ("a", 2), "kept": ("a", 2), "all": ("a", 2), "twice": ("a", 2), "out": (2, 0, 10, 1)}
        for name in values:
            for side, ahead in enumerate(steps_ahead(PLAN, name)):
                for workers in range(1, 5):
                    found = graph(PLAN, {other: workers if other == name else 4 for other in NAMES})
                    self.assertEqual([route(found, (ahead, sender), name, side, values[name]) for sender in range(4)],
                                     [sender % workers for sender in range(4)])

    def test_the_task_owns_the_group(self):
        draw = a_draw(54)
        for _ in range(50):
            many = draw.randint(1, 4)
            found = graph(PLAN, {name: many for name in NAMES})
            values = (draw.choice(("", "a", "xy", None)), draw.choice((None, 3, -8, 10 ** 20)))
            self.assertEqual(route(found, ("twice", 0), "near", 1, values), route(found, ("t", 1), "near", 0, (0,) + values))


if __name__ == "__main__":
    unittest.main()
