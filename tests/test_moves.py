"""Nets that are run, held against what can be told of each net anew."""

import collections
import copy
import unittest

from oncestream.graphs import graph
from oncestream.moves import RunNet
from oncestream.nets import can_move, fresh_net, moved, read_in, stopped
from oncestream.queries import sources_of
from oncestream.wiring import Wiring
from tests.makers import a_draw
from tests.scripting import a_case, some_workers


class Running(unittest.TestCase):
    def nets(self, seed, times):
        """Drawn nets, with the entries that are to be read of each part."""
        draw = a_draw(seed)
        for _ in range(times):
            _, plan, fed = a_case(draw, steps=draw.choice((2, 5)))
            g = graph(plan, dict(some_workers(draw, plan, 3)))
            yield draw, plan, fresh_net(g, {name: len(fed[name]) for name in fed}, draw.choice((1, 1, 2, 5))), {(name, part): list(entries) for name in fed for part, entries in enumerate(fed[name])}

    def something(self, draw, plan, run, net, left, n):
        """One thing done to both, by the functions of nets to the one; what is kept then, and the letters, of each."""
        moves = can_move(net)
        sources = [(task, part) for task, fields in net["tasks"].items() if task[0] in sources_of(plan) and not fields["outbox"]
                   for part, _, _ in fields["state"][0] if left[task[0], part]]
        if sources and (not moves or draw.random() < 0.2):
            task, part = draw.choice(sources)
            entry = left[task[0], part].pop(0)
            run.read(task, part, entry)
            return read_in(net, task, part, entry), None, None
        if not moves:
            return None
        k = draw.choice((0, 0, draw.randrange(10 ** 6)))
        move = run.first() if k == 0 and draw.random() < 0.7 else run.picked(k)
        self.assertEqual(move, moves[k % len(moves)])
        net, kept, letter = moved(net, move, n)
        self.assertEqual(run.move(move, n), (kept, letter))
        return net, kept, letter

    def check(self, run, net, draw):
        moves = can_move(net)
        for k in [draw.randrange(10 ** 6) for _ in range(2)] + [0]:
            self.assertEqual(run.picked(k), moves[k % len(moves)] if moves else None)
        self.assertEqual(run.first(), moves[0] if moves else None)
        self.assertEqual(run.tasks(), net["tasks"])

    def test_what_can_be_done_is_told_anew(self):
        seen = collections.Counter()
        for draw, plan, net, left in self.nets(1431, 60):
            run, n, is_looked_at = RunNet(Wiring(net["graph"]), net), 0, draw.random() < 0.7
            for _ in range(200):
                free = [task for task, fields in net["tasks"].items() if task[0] in sources_of(plan)]
                if draw.random() < 0.02 and all(not net["tasks"][task]["outbox"] for task in free):
                    n += 1
                    for task in free:
                        told = run.stop(task, n, n)
                        net, kept, letter = stopped(net, task, n, n)
                        self.assertEqual(told, (kept, letter))
                        seen["stopped"] += 1
                told = self.something(draw, plan, run, net, left, n)
                if told is None:
                    break
                net, kept, _ = told
                seen["kept"] += kept is not None
                seen["done"] += 1
                if is_looked_at:
                    self.check(run, net, draw)
            self.assertEqual(run.stands(), net)
            self.check(run, net, draw)
        self.assertGreater(min(seen.values()), 40)
        self.assertGreater(seen["done"], 3000)

    def test_a_net_that_was_told_stays(self):
        """Neither the net with which it begins nor one that it has told is changed by what is done then."""
        for draw, plan, net, left in self.nets(1432, 20):
            run, told = RunNet(Wiring(net["graph"]), net), [(net, copy.deepcopy(net))]
            for _ in range(60):
                behind = self.something(draw, plan, run, net, left, 1)
                if behind is None:
                    break
                net = behind[0]
                if draw.random() < 0.4:
                    told.append((run.stands(), copy.deepcopy(net)))
            for one, other in told:
                self.assertEqual(one, other)

    def test_asked_once_and_more_often(self):
        """The first answer comes without all moves being put in order; it is the same."""
        for draw, _, net, _ in self.nets(1433, 20):
            moves = can_move(net)
            for k in range(len(moves) + 2):
                run = RunNet(Wiring(net["graph"]), net)
                told = [run.picked(k), run.picked(k), run.first(), run.picked(k)]
                self.assertEqual(told, [moves[k % len(moves)], moves[k % len(moves)], moves[0], moves[k % len(moves)]])


if __name__ == "__main__":
    unittest.main()
