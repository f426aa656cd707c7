"""Whole queries run by tasks that are run alone, one behind another, and held against the plain meaning."""

import collections
import unittest

from oncestream.barriers import before, driven, finished, judge_channel, numbers_in
from oncestream.graphs import graph, inputs_of, route, tasks_of
from oncestream.logs import written
from oncestream.marks import END
from oncestream.meaning import all_late, cut, meaning, places_of
from oncestream.operators import operator_of
from oncestream.planner import planned
from oncestream.queries import columns_of, judge_query, sources_of, step_of
from oncestream.sources import at_source, begun, dealt, fresh_source, read_all
from tests.makers import a_draw, a_query, an_input


def source_things(draw, fed, task, many, numbers):
    """What a source task gives with barriers of these numbers anywhere, and how far it has read at each."""
    name, number = task
    parts = dealt(len(fed[name]), many)[number]
    logs = {part: written("", fed[name][part]) for part in parts}
    source, things, at, late = fresh_source(parts), begun(fresh_source(parts)), {}, []
    order = [part for part in parts for _ in fed[name][part]]
    draw.shuffle(order)
    cuts = [0] + sorted(draw.randint(0, len(order)) for _ in numbers) + [len(order)]
    for place, n in enumerate(tuple(numbers) + (None,)):
        source, more = read_all(source, order[cuts[place]:cuts[place + 1]], logs)
        things += more
        if n is not None:
            source, kept, letter = at_source(source, 1, n, task)
            things += (("barrier", n),)
            at[n] = {(name, part): read for part, read, _ in kept}
            late += [(n, name, row) for row in letter[4]]
    return things, at, late


def on_channel(tasks, sent, channel):
    """What comes on a channel of all that its sender sends."""
    sender, side, (name, number) = channel
    return tuple(thing for thing in sent if thing[0] != "row" or route(tasks, sender, name, side, thing[1][2]) == number)


def run_whole(draw, plan, fed, workers, numbers):
    """All that each task sends, how far sources have read at each barrier, and the late rows told there."""
    tasks, sent, places, late = graph(plan, workers), {}, {n: {} for n in numbers}, []
    for task in tasks_of(tasks):
        if task[0] in sources_of(plan):
            sent[task], at, told = source_things(draw, fed, task, workers[task[0]], numbers)
            late += told
            for n in at:
                places[n].update(at[n])
            continue
        inputs = tuple(on_channel(tasks, sent[channel[0]], channel) for channel in inputs_of(tasks, task))
        assert all(judge_channel(things, 0) is None and numbers_in(things) == tuple(numbers) for things in inputs)
        many = sum(len(things) for things in inputs)
        picks = tuple(draw.randrange(1000) for _ in range(many))
        sent[task] = (finished(operator_of(tasks, task), inputs) if draw.random() < 0.3 else driven(operator_of(tasks, task), inputs, picks))[0]
    return sent, places, late


def rows_out(sent):
    return collections.Counter(thing[1] for task in sent if task[0] == "out" for thing in sent[task] if thing[0] == "row")


class Together(unittest.TestCase):
    def runs(self, seed, times):
        draw = a_draw(seed)
        for _ in range(times):
            query = a_query(draw, draw.randint(1, 7), judge_query, columns_of)
            plan = planned(query)[0] if draw.random() < 0.5 else query
            fed = an_input(draw, query, sources_of, columns_of, most=6)
            if draw.random() < 0.5:
                fed = {name: tuple(part + (("mark", END),) for part in fed[name]) for name in fed}
            yield draw, query, plan, {name: fed[name] for name in sources_of(query)}, {name: draw.randint(1, 3) for name, _ in plan}

    def test_the_plain_meaning(self):
        for draw, query, plan, fed, workers in self.runs(161, 120):
            sent, _, _ = run_whole(draw, plan, fed, workers, ())
            self.assertEqual(dict(rows_out(sent)), meaning(query, fed))

    def test_what_comes_ahead_of_each_barrier(self):
        """It is the plain meaning of what the sources had read when they put the barrier in."""
        for draw, query, plan, fed, workers in self.runs(162, 80):
            numbers = draw.choice(((1,), (1, 2), (2, 5, 6)))
            sent, places, late = run_whole(draw, plan, fed, workers, numbers)
            for n in numbers:
                self.assertEqual(set(places[n]), set(places_of(fed)))
                here = cut(fed, places[n])
                ahead = rows_out({task: before(sent[task], n) for task in sent if task[0] == "out"})
                self.assertEqual(dict(ahead), meaning(query, here))
                rows = sorted(repr(fed[name][part][place][1:]) for name, part, place in all_late(here))
                self.assertEqual(sorted(repr(row) for m, _, row in late if m <= n), rows)

    def test_all_kinds_of_steps_were_there(self):
        words = set()
        for _, _, plan, _, _ in self.runs(161, 120):
            words |= {step_of(plan, name)[0] for name, _ in plan[:-1]}
        self.assertEqual(words, {"source", "keep", "make", "both", "sum", "join", "gather", "finish"})


if __name__ == "__main__":
    unittest.main()
