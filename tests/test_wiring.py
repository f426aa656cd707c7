"""Wirings, held against what graphs tell of each thing alone."""

import unittest

from oncestream.graphs import channels_of, graph, inputs_of, outputs_of, readers_by_name, route, tasks_of
from oncestream.operators import operator_of
from oncestream.queries import columns_of, sources_of, steps_ahead, steps_behind
from oncestream.texts import read_query
from oncestream.wiring import Wiring
from tests.makers import a_draw, values_for
from tests.scripting import a_case, some_workers

# A step that is read twice by "both" and by "join", by a step with keys and by one without; one that nobody reads.
QUERY = read_query("""s: source k text, n number
k: keep s where (0 < n)
b: both k k
j: join k s by k, n back 5 ahead 5
t: sum b by k in even 10 with c = count 1
jj: join s s by n, k back 0 ahead 0
o: make j with k = k, n = n
out o""")


def graphs(seed, times):
    """The triples (chance, plan, graph) of many drawn ones, ahead of them one in which all is there."""
    draw = a_draw(seed)
    yield draw, QUERY, graph(QUERY, {"s": 2, "k": 1, "b": 2, "j": 2, "t": 3, "jj": 4, "o": 1, "out": 2})
    for _ in range(times):
        plan = a_case(draw)[1]
        yield draw, plan, graph(plan, dict(some_workers(draw, plan, 4)))


class Wirings(unittest.TestCase):
    def test_tasks_and_columns(self):
        for _, plan, g in graphs(1421, 30):
            wiring = Wiring(g)
            self.assertEqual((wiring.graph, wiring.tasks(), wiring.sources), (g, tasks_of(g), sources_of(plan)))
            self.assertEqual(wiring.source_tasks(), [task for task in tasks_of(g) if task[0] in sources_of(plan)])
            self.assertEqual(list(wiring.steps.items()), list(plan))
            for name, _ in plan:
                self.assertEqual((wiring.tasks_at(name), wiring.columns_of(name)), ([task for task in tasks_of(g) if task[0] == name], columns_of(plan, name)))

    def test_readers(self):
        for _, plan, _ in graphs(1422, 30):
            readers = readers_by_name(plan)
            self.assertEqual(set(readers), {name for name, _ in plan})
            for name, _ in plan:
                behind = steps_behind(plan, name) + (("out",) if plan[-1][1] == name else ())
                awaited = [(other, tuple(side for side, of in enumerate(steps_ahead(plan, other)) if of == name)) for other in behind]
                self.assertEqual(readers[name], awaited)

    def check_channels(self, g, wiring):
        for task in tasks_of(g):
            self.assertEqual((wiring.inputs(task), wiring.outputs(task)), (inputs_of(g, task), outputs_of(g, task)))
            for number, channel in enumerate(inputs_of(g, task)):
                self.assertEqual(wiring.input_number(channel), number)

    def test_channels(self):
        """Each asked alone, and all found out at once; then each is one and the same tuple at both of its ends."""
        for draw, _, g in graphs(1423, 30):
            for channel in channels_of(g):
                self.assertEqual(Wiring(g).input_number(channel), inputs_of(g, channel[2]).index(channel))
            wiring = Wiring(g)
            if draw.random() < 0.5:
                self.check_channels(g, wiring)
            wiring.connect()
            self.check_channels(g, wiring)
            known = {id(channel) for task in tasks_of(g) for channel in wiring.inputs(task)}
            self.assertEqual({id(channel) for task in tasks_of(g) for channel in wiring.outputs(task)}, known)
            wiring.connect()
            self.check_channels(g, wiring)

    def test_where_rows_go(self):
        done = 0
        for draw, plan, g in graphs(1424, 40):
            wiring = Wiring(g)
            if draw.random() < 0.5:
                wiring.connect()
            for task in tasks_of(g):
                for _ in range(6 if task[0] != "out" else 0):
                    values = values_for(draw, columns_of(plan, task[0]))
                    ways = [(name, side) for name, sides in readers_by_name(plan)[task[0]] for side in sides]
                    awaited = [(task, side, (name, route(g, task, name, side, values))) for name, side in ways]
                    self.assertEqual(wiring.row_channels(task, values), awaited)
                    done += len(awaited)
            self.assertEqual(wiring.row_channels(("out", 0), ()), [])
        self.assertGreater(done, 1000)

    def test_operators(self):
        """One for all tasks of a step; it does what the operator of each task does."""
        done = 0
        for draw, plan, g in graphs(1425, 60):
            wiring = Wiring(g)
            for task in tasks_of(g):
                if task[0] == "out" or task[0] in sources_of(plan):
                    continue
                one, other = wiring.operator(task[0]), operator_of(g, task)
                self.assertIs(wiring.operator(task[0]), one)
                states = [one[0](), other[0]()]
                for time in range(0, 12, 2):
                    number = draw.randrange(len(inputs_of(g, task)))
                    row = (time + draw.randint(0, 9), draw.choice((1, -1)), values_for(draw, columns_of(plan, inputs_of(g, task)[number][0][0])))
                    if dict(plan)[task[0]][0] == "finish":
                        keys = len(dict(plan)[task[0]][2])
                        row = (row[0], 1, row[2][:keys] + (0, row[0] + 1) + (1,) * len(row[2][keys + 2:]))
                    for act in (lambda operator, state: operator[1](state, number, row), lambda operator, state: operator[2](state, time)):
                        told = [act(one, states[0]), act(other, states[1])]
                        self.assertEqual(told[0], told[1])
                        states = [state for state, _ in told]
                        done += len(told[0][1])
        self.assertGreater(done, 200)

    def test_moves_in_order(self):
        for _, _, g in graphs(1426, 30):
            wiring = Wiring(g)
            awaited = sorted([("send", task) for task in tasks_of(g)] + [("take", channel) for channel in channels_of(g)])
            self.assertEqual([wiring.number_of(place) for _, place in awaited], list(range(len(awaited))))
            self.assertEqual([wiring.move(number) for number in range(len(awaited))], awaited)
            for task in tasks_of(g):
                self.assertEqual(Wiring(g).numbered_inputs(task), [(awaited.index(("take", channel)), channel) for channel in inputs_of(g, task)])


if __name__ == "__main__":
    unittest.main()
