import collections
import unittest

from oncestream.graphs import graph, group, owner, route, tasks_of
from oncestream.groups import begun_of, fresh_kept, groups_of, moved
from oncestream.joins import is_state as is_join_state
from oncestream.joins import join_of, key_of
from oncestream.marks import END
from oncestream.meaning import cut, meaning
from oncestream.nets import fresh_net, net_of, read_in, run_idle, stopped
from oncestream.planner import planned
from oncestream.queries import columns_of, judge_query, sources_of, step_of
from oncestream.rewritings import unplanned
from oncestream.texts import read_query
from oncestream.windows import is_state as is_sum_state
from tests.makers import a_draw, a_query, an_input
from tests.untouched import looked_at

QUERY = read_query("""s: source k text, n number
z: source k text
k: keep s where (0 < n)
m: make z with k = k, n = 1
b: both k m
t: sum b by k in even 10 with c = sum n, l = least n
j: join s z by k back 5 ahead 5
out t""")
PARTED = planned(read_query("s: source k text\nt: sum s by k in even 10 with c = count 1\nout t"))[0]
WIDER = planned(read_query("s: source k text, n number, m number\nt: sum s by k, n, m in even 10 with c = count 1\nout t"))[0]


def workers_of(plan, *many):
    return tuple(sorted((name, many[at % len(many)]) for at, (name, _) in enumerate(plan)))


def some_workers(draw, plan):
    return tuple(sorted((name, draw.randint(1, 4)) for name, _ in plan))


class Groups(unittest.TestCase):
    def test_each_group_has_one_owner(self):
        for workers in range(1, 5):
            told = [looked_at(self, groups_of, i, workers) for i in range(workers)]
            self.assertEqual([g for groups in told for g in groups], list(range(16)))
            for i, groups in enumerate(told):
                self.assertEqual({owner(g, workers) for g in groups}, {i})
        self.assertEqual([groups_of(i, 3) for i in range(3)], [(0, 1, 2, 3, 4, 5), (6, 7, 8, 9, 10), (11, 12, 13, 14, 15)])

    def test_rows_come_to_the_owner_of_their_group(self):
        G = graph(QUERY, {name: 3 for name, _ in QUERY})
        for key in ("a", "b", "c", "", None):
            number = route(G, ("b", 0), "t", 0, (key, 5))
            self.assertIn(group((key,)), groups_of(number, 3))


class Fresh(unittest.TestCase):
    def test_kept(self):
        workers = (("b", 1), ("j", 2), ("k", 1), ("m", 1), ("out", 2), ("s", 3), ("t", 2), ("z", 2))
        told = looked_at(self, fresh_kept, QUERY, workers, {"s": 4, "z": 1})
        sources = {("s", 0): (((0, 0, 0), (3, 0, 0)), 0), ("s", 1): (((1, 0, 0),), 0), ("s", 2): (((2, 0, 0),), 0), ("z", 0): (((0, 0, 0),), 0), ("z", 1): ((), END)}
        others = {("k", 0): (), ("m", 0): (), ("b", 0): (), ("t", 0): (0, ()), ("t", 1): (0, ()), ("j", 0): (0, (), ()), ("j", 1): (0, (), ()), ("out", 0): (), ("out", 1): ()}
        self.assertEqual(told, {**sources, **{task: (state, 0) for task, state in others.items()}})
        self.assertEqual(fresh_kept(QUERY, workers, {"s": 0, "z": 0})[("s", 0)], ((), END))
        names = [name for name, _ in PARTED]
        told = fresh_kept(PARTED, workers_of(PARTED, 1), {"s": 1})
        self.assertEqual(told, {("s", 0): (((0, 0, 0),), 0), (names[1], 0): ((0, ()), 0), ("t", 0): ((), 0), ("out", 0): ((), 0)})

    def test_begun(self):
        kept = {("s", 0): (((0, 3, 5), (2, 1, 0)), 0), ("s", 1): ((), END), ("t", 0): ((7, ()), 7), ("j", 0): ((7, (), ()), 9), ("k", 0): ((), 3), ("out", 0): ((), 7), ("out", 1): ((), 8)}
        awaited = {("s", 0): ((((0, 3, 5), (2, 1, 0)), (), None), 0), ("s", 1): (((), (), None), END), ("t", 0): ((7, ()), 7), ("j", 0): ((7, (), ()), 9), ("k", 0): ((), 3),
                   ("out", 0): (((), None), 7), ("out", 1): (((), None), 8)}
        self.assertEqual(looked_at(self, begun_of, QUERY, kept), awaited)

    def test_a_fresh_net_begins_with_it(self):
        for plan in (QUERY, PARTED):
            workers, parts = workers_of(plan, 1, 3, 2), {name: 3 for name in sources_of(plan)}
            G = graph(plan, dict(workers))
            self.assertEqual(net_of(G, 4, begun_of(plan, fresh_kept(plan, workers, parts))), fresh_net(G, parts, 4))


def plainly_moved(plan, new, kept):
    """What is moved, told once more: all that was kept in one heap, each thing to its owner."""
    found = {}
    for name, _ in plan:
        many, step = dict(new)[name], ("out",) if name == "out" else step_of(plan, name)
        old = [kept[task] for task in sorted(kept) if task[0] == name]
        for number in range(many):
            mine = lambda key: owner(group(key), many) == number
            mark = old[0][1]
            if step[0] == "source":
                state = tuple(sorted(triple for parts, _ in old for triple in parts if triple[0] % many == number))
                mark = min([triple[2] for triple in state], default=END)
            elif step[0] in ("sum", "gather"):
                state = (old[0][0][0], heaped([(key, slot, lot) for (_, keys), _ in old for key, slots in keys for slot, lot in slots if mine(key)]))
            elif step[0] == "finish":
                state = tuple(sorted((pair for pairs, _ in old for pair in pairs if mine(pair[0][:len(step[2])])), key=lambda pair: repr_rank(pair[0])))
            elif step[0] == "join":
                join = join_of(columns_of(plan, step[1]), columns_of(plan, step[2]), step[3], step[4], step[5])
                state = (old[0][0][0],) + tuple(heaped_rows(join, side, [pair for state, _ in old for pair in state[1 + side] if mine(key_of(join, side, pair[0][2]))]) for side in (0, 1))
            else:
                state = ()
            found[(name, number)] = (state, mark)
    return found


def repr_rank(values):
    return [(0, 0) if value is None else (1, value) if isinstance(value, int) else (2, value) for value in values]


def heaped(triples):
    heap = {}
    for key, slot, (rows, tallies) in triples:
        there = heap.setdefault(key, {}).get(slot)
        heap[key][slot] = (rows, tallies) if there is None else (there[0] + rows, tuple(summed(one, other) for one, other in zip(there[1], tallies)))
    return tuple((key, tuple(sorted(heap[key].items()))) for key in sorted(heap, key=repr_rank))


def summed(one, other):
    """Two tallies put together."""
    if isinstance(one, int):
        return one + other
    signs = collections.Counter()
    for given, n in one + other:
        signs[given] += n
    return tuple(sorted(((given, n) for given, n in signs.items() if n), key=lambda pair: repr_rank(pair[:1])))


def heaped_rows(join, side, pairs):
    heap = collections.Counter()
    for row, n in pairs:
        heap[row] += n
    return tuple(sorted(heap.items(), key=lambda pair: (repr_rank(key_of(join, side, pair[0][2])), pair[0][:2], repr_rank(pair[0][2]))))


class Cut:
    """A net that has read a beginning of its input, and what it has kept there."""

    def __init__(self, draw, plan, fed, workers):
        self.draw, self.plan, self.fed, self.workers, self.letters = draw, plan, fed, workers, []
        net = fresh_net(graph(plan, dict(workers)), {name: len(fed[name]) for name in fed}, 3)
        net = self.read(net, lambda: draw.random() < 0.75)
        self.kept = {}
        for task in [task for task in net["tasks"] if task[0] in fed]:
            net, kept, letter = stopped(net, task, 1, 1)
            self.keep([kept], [letter])
            net, kept, letters = run_idle(net, 1)
            self.keep(kept, letters)

    def keep(self, kept, letters):
        self.letters += letters
        self.kept.update({task: (state, mark) for n, task, state, mark in kept})

    def read(self, net, is_read):
        """The net behind entries that its source tasks read, as long as is_read says so, each with all that comes of it."""
        net, left = run_idle(net, 1)[0], True
        while left:
            left = [(task, part, self.fed[task[0]][part][place]) for task, fields in net["tasks"].items() if task[0] in self.fed
                    for part, place, _ in fields["state"][0] if place < len(self.fed[task[0]][part])]
            if left and not is_read():
                break
            if left:
                net = run_idle(read_in(net, *self.draw.choice(left)), 1)[0]
        return net

    def rows_out(self):
        return collections.Counter(row for letter in self.letters if letter[3][0] == "out" for row in letter[4])

    def places(self):
        return {(task[0], part): place for task, (state, _) in self.kept.items() if task[0] in self.fed for part, place, _ in state}

    def gone_on(self, workers, kept):
        """The rows that come when tasks of other workers go on from what was kept, to the end of the input."""
        net = net_of(graph(self.plan, dict(workers)), self.draw.choice((1, 4)), begun_of(self.plan, kept))
        net = self.read(net, lambda: True)
        return collections.Counter(row for task, fields in net["tasks"].items() if task[0] == "out" for row in fields["state"][0])


class Moved(unittest.TestCase):
    def cuts(self, seed, times):
        draw = a_draw(seed)
        for _ in range(times):
            query = a_query(draw, draw.randint(1, 6), judge_query, columns_of)
            plan = planned(query)[0] if draw.random() < 0.5 else query
            fed = an_input(draw, plan, sources_of, columns_of, most=6)
            fed = {name: tuple(part + (("mark", END),) for part in fed[name]) for name in sources_of(plan)}
            yield draw, Cut(draw, plan, fed, some_workers(draw, plan))

    def test_one_cut(self):
        """All tasks of a step but a source's have kept one mark; what is held is what the input till there means."""
        for _, here in self.cuts(541, 40):
            self.assertEqual(set(here.kept), set(tasks_of(graph(here.plan, dict(here.workers)))))
            for name, _ in here.plan:
                if name not in here.fed:
                    self.assertEqual(len({mark for task, (_, mark) in here.kept.items() if task[0] == name}), 1)
            self.assertEqual(dict(here.rows_out()), meaning(unplanned(here.plan), cut(here.fed, here.places())))

    def test_there_and_back_and_by_way_of_a_third(self):
        kinds = collections.Counter()
        for draw, here in self.cuts(542, 80):
            plan, a, b, c = here.plan, here.workers, some_workers(draw, here.plan), some_workers(draw, here.plan)
            there = looked_at(self, moved, plan, a, b, here.kept)
            self.assertEqual(there, plainly_moved(plan, b, here.kept))
            self.assertEqual(set(there), set(tasks_of(graph(plan, dict(b)))))
            self.assertEqual(moved(plan, b, c, there), moved(plan, a, c, here.kept))
            self.assertEqual(moved(plan, b, a, there), moved(plan, a, a, here.kept))
            kept = moved(plan, a, a, here.kept)
            for task in here.kept:
                word = "out" if task[0] == "out" else step_of(plan, task[0])[0]
                kinds[word, here.kept[task][0] not in ((), (0, ()), (0, (), ()))] += 1
                if word != "gather":
                    self.assertEqual(kept[task], here.kept[task])
        # All gathers of a step have one mark at a cut, so a finish has nothing there: test_any_states looks at those.
        for word in ("source", "sum", "join", "gather"):
            self.assertGreater(kinds[word, True], 3, word)
        self.assertGreater(kinds["finish", False], 3)

    def test_states_have_their_forms(self):
        for draw, here in self.cuts(543, 40):
            there = moved(here.plan, here.workers, some_workers(draw, here.plan), here.kept)
            for (name, _), (state, _) in there.items():
                step = ("out",) if name == "out" else step_of(here.plan, name)
                if step[0] in ("sum", "gather"):
                    self.assertIs(is_sum_state(step, state), True)
                if step[0] == "join":
                    join = join_of(columns_of(here.plan, step[1]), columns_of(here.plan, step[2]), step[3], step[4], step[5])
                    self.assertIs(is_join_state(join, state), True)

    def test_all_go_on_alike(self):
        """Tasks of any workers give from there on what would have been given."""
        rows_seen = 0
        for draw, here in self.cuts(544, 60):
            awaited = collections.Counter(meaning(unplanned(here.plan), here.fed)) - here.rows_out()
            other, third = some_workers(draw, here.plan), some_workers(draw, here.plan)
            there = moved(here.plan, here.workers, other, here.kept)
            self.assertEqual(here.gone_on(here.workers, here.kept), awaited)
            self.assertEqual(here.gone_on(other, there), awaited)
            self.assertEqual(here.gone_on(third, moved(here.plan, other, third, there)), awaited)
            rows_seen += sum(awaited.values()) > 0
        self.assertGreater(rows_seen, 15)

    def test_any_states(self):
        """States of which no rows tell: keys with more than one task, parts of any numbers and marks."""
        draw = a_draw(545)
        for plan in (QUERY, PARTED, WIDER):
            for _ in range(60):
                old, new, mark = some_workers(draw, plan), some_workers(draw, plan), draw.choice((0, 7, 50))
                kept, parts = {}, {name: list(range(6)) for name in sources_of(plan)}
                for name, number in tasks_of(graph(plan, dict(old))):
                    kept[(name, number)] = (self.any_state(draw, plan, name, number, mark, parts), mark)
                self.assertEqual(looked_at(self, moved, plan, old, new, kept), plainly_moved(plan, new, kept))

    def any_state(self, draw, plan, name, number, mark, parts):
        word = "out" if name == "out" else step_of(plan, name)[0]
        keys = [(key,) for key in sorted(draw.sample(("", "a", "b", "x", "y"), draw.randint(0, 3)))]
        if plan == WIDER:
            keys = [key + (draw.randint(0, 9), None) for key in keys]
        if word == "source":
            mine = sorted(draw.sample(parts[name], min(len(parts[name]), draw.randint(0, 3))))
            parts[name] = [part for part in parts[name] if part not in mine]
            return tuple((part, draw.randint(0, 9), draw.choice((0, 5, END))) for part in mine)
        if word in ("sum", "gather"):
            def lot():
                tallies = (draw.randint(-3, 3),) if word == "gather" else (draw.randint(-3, 3), draw.choice(((), ((2, 1),), ((2, -1), (5, 2)))))
                return (draw.randint(1, 4), tallies)
            return (mark, tuple((key, tuple((slot, lot()) for slot in sorted(draw.sample((50, 60, 90), draw.randint(1, 2))))) for key in keys))
        if word == "finish":
            return tuple((key + (10 * number, 10 * number + 100), (draw.randint(-2, 2),)) for key in keys)
        if word == "join":
            sides = [tuple(((draw.randint(60, 62), 1, key + rest), draw.randint(1, 3)) for key in keys) for rest in ((5,), ())]
            return (mark,) + tuple(sides)
        return ()

    def test_marks_and_parts_of_sources(self):
        old, new = workers_of(QUERY, 2), workers_of(QUERY, 3)
        kept = {task: ((), 6) for task in tasks_of(graph(QUERY, dict(old)))}
        kept.update({("s", 0): (((0, 3, 5), (2, 1, 9)), 5), ("s", 1): (((1, 4, 0), (4, 0, 7)), 0), ("z", 0): ((), END), ("z", 1): (((5, 2, 8),), 8)})
        for number in range(2):
            kept[("t", number)], kept[("j", number)] = ((6, ()), 6), ((6, (), ()), 6)
        told = moved(QUERY, old, new, kept)
        self.assertEqual([told[("s", number)] for number in range(3)], [(((0, 3, 5),), 5), (((1, 4, 0), (4, 0, 7)), 0), (((2, 1, 9),), 9)])
        self.assertEqual([told[("z", number)] for number in range(3)], [((), END), ((), END), (((5, 2, 8),), 8)])
        self.assertEqual([told[("t", 2)], told[("j", 2)], told[("k", 2)], told[("out", 2)]], [((6, ()), 6), ((6, (), ()), 6), ((), 6), ((), 6)])


if __name__ == "__main__":
    unittest.main()
