import collections
import unittest

from oncestream.errors import Blocked
from oncestream.graphs import channels_of, graph, inputs_of, outputs_of, route, tasks_of
from oncestream.marks import END
from oncestream.meaning import meaning
from oncestream.nets import (can_move, fresh_net, is_idle, may_send, may_take, moved, net_of, read_in, run_idle, sent, stopped,
                             taken, tell)
from oncestream.planner import planned
from oncestream.queries import columns_of, judge_query, sources_of
from oncestream.rewritings import unplanned
from oncestream.texts import read_query
from oncestream.windows import put as sum_put
from tests.makers import a_draw, a_query, an_input
from tests.plainnet import PlainNet
from tests.untouched import left_alone

# A step that "both" and "join" name twice, sums and joins behind what is read by several, and a step that nobody reads.
QUERY = read_query("""s: source k text, n number
k: keep s where (0 < n)
b: both k k
j: join k s by k, n back 5 ahead 5
t: sum b by k in even 10 with c = count 1
jj: join s s by k, n back 0 ahead 0
o: make j with k = k, n = n
out o""")
WORKERS = {"s": 2, "k": 1, "b": 2, "j": 2, "t": 3, "jj": 1, "o": 1, "out": 2}
G = graph(QUERY, WORKERS)
SMALL = read_query("s: source k text, n number\nk: keep s where (0 < n)\nout k")
LINE = graph(SMALL, {"s": 1, "k": 1, "out": 1})
WIDE = graph(SMALL, {"s": 2, "k": 2, "out": 1})
ROW, BAD = (3, 1, ("a", 5)), (3, 1, ("a", 0))
S, K, OUT = ("s", 0), ("k", 0), ("out", 0)
SK, KO = (S, 0, K), (K, 0, OUT)


def with_task(net, task, **fields):
    return {**net, "tasks": {**net["tasks"], task: {**net["tasks"][task], **fields}}}


def with_things(net, channel, *things):
    return {**net, "channels": {**net["channels"], channel: tuple(things)}}


def empty(net):
    """The net with nothing on the way."""
    net = {**net, "channels": {channel: () for channel in net["channels"]}}
    for task in net["tasks"]:
        net = with_task(net, task, outbox=())
    return net


def outbox(net, task):
    return net["tasks"][task]["outbox"]


class Begun(unittest.TestCase):
    def test_fields(self):
        net = left_alone(self, fresh_net, G, {"s": 3}, 4)
        self.assertEqual(set(net), {"graph", "credits", "tasks", "channels"})
        self.assertEqual((net["graph"], net["credits"]), (G, 4))
        self.assertEqual(list(net["tasks"]), tasks_of(G))
        self.assertEqual(list(net["channels"]), channels_of(G))
        self.assertEqual(set(net["channels"].values()), {()})
        for task in tasks_of(G):
            fields = net["tasks"][task]
            self.assertEqual(set(fields), {"state", "marks", "mark", "waiting", "outbox"})
            self.assertEqual(fields["marks"], {channel: None for channel in inputs_of(G, task)})
            self.assertEqual((fields["mark"], fields["waiting"]), (0, None))
            self.assertEqual(fields["outbox"], tuple((channel, ("mark", 0)) for channel in outputs_of(G, task)))
        states = {task: net["tasks"][task]["state"] for task in tasks_of(G)}
        self.assertEqual((states[S], states[("s", 1)]), ((((0, 0, 0), (2, 0, 0)), (), None), (((1, 0, 0),), (), None)))
        self.assertEqual((states[K], states[("b", 1)], states[("j", 0)], states[("t", 2)], states[("o", 0)], states[OUT]),
                         ((), (), (0, (), ()), (0, ()), (), ((), None)))

    def test_sources_without_parts(self):
        net = fresh_net(G, {"s": 1}, 1)
        self.assertEqual([net["tasks"][("s", k)]["mark"] for k in range(2)], [0, END])
        self.assertEqual(outbox(net, ("s", 1))[0][1], ("mark", END))
        net = fresh_net(G, {"s": 0}, 1)
        self.assertEqual([net["tasks"][("s", k)]["state"] for k in range(2)], [((), (), None)] * 2)

    def test_gathers_and_finishes(self):
        plan = planned(read_query("s: source k text\nt: sum s by k in even 10 with c = count 1\nout t"))[0]
        many = graph(plan, {name: 2 for name, _ in plan})
        net = fresh_net(many, {"s": 2}, 1)
        states = [net["tasks"][(name, 0)]["state"] for name, _ in plan]
        self.assertEqual([step[0] for _, step in plan[:-1]], ["source", "gather", "finish"])
        self.assertEqual(states, [(((0, 0, 0),), (), None), (0, ()), (), ((), None)])

    def test_what_is_passed_is_what_begins(self):
        begun = {task: (("state", task), None if task[0] == "b" else 10 * at) for at, task in enumerate(tasks_of(G))}
        net = left_alone(self, net_of, G, 7, begun)
        for task in tasks_of(G):
            fields = net["tasks"][task]
            self.assertEqual((fields["state"], fields["mark"], fields["waiting"]), begun[task] + (None,))
            told = () if begun[task][1] is None else tuple((channel, ("mark", begun[task][1])) for channel in outputs_of(G, task))
            self.assertEqual(fields["outbox"], told)
            self.assertEqual(set(fields["marks"].values()) - {None}, set())
        self.assertEqual((net["credits"], set(net["channels"].values())), (7, {()}))


class Told(unittest.TestCase):
    def channel(self, task, name, side, values):
        return (task, side, (name, route(G, task, name, side, values)))

    def test_rows_marks_and_barriers_in_order(self):
        net = empty(fresh_net(G, {"s": 3}, 2))
        rows = (ROW, (4, -1, (None, 7)), ROW)
        for task in (K, S, ("s", 1), ("t", 1), ("o", 0), OUT):
            sides = {"k": [("b", 0), ("b", 1), ("j", 0)], "s": [("k", 0), ("j", 1), ("jj", 0), ("jj", 1)], "o": [("out", 0)]}.get(task[0], [])
            awaited = [(self.channel(task, name, side, row[2]), ("row", row)) for row in rows for name, side in sides]
            for mark, barrier in ((None, None), (12, None), (None, 3), (0, 4), (END, 1)):
                told = left_alone(self, tell, net, task, rows, mark, barrier)
                more = [(channel, (word, n)) for word, n in (("mark", mark), ("barrier", barrier)) if n is not None for channel in outputs_of(G, task)]
                self.assertEqual(told, with_task(net, task, outbox=tuple(awaited + more), mark=0 if mark is None else mark))
        self.assertEqual(outputs_of(G, ("t", 1)), [])

    def test_behind_what_is_there(self):
        net = empty(fresh_net(LINE, {"s": 1}, 2))
        once = tell(net, S, (), 5, None)
        twice = tell(once, S, (ROW,), None, 1)
        self.assertEqual(outbox(twice, S), ((SK, ("mark", 5)), (SK, ("row", ROW)), (SK, ("barrier", 1))))
        self.assertEqual((twice["tasks"][S]["mark"], tell(net, S, (), None, None)), (5, net))
        self.assertEqual(tell(twice, S, (), 3, None)["tasks"][S]["mark"], 3)


class Sent(unittest.TestCase):
    def check_blocked(self, function, *arguments):
        with self.assertRaises(Blocked):
            function(*arguments)

    def test_credits(self):
        net = empty(fresh_net(LINE, {"s": 1}, 1))
        self.assertIs(left_alone(self, may_send, net, S), False)
        self.check_blocked(sent, net, S)
        for room in (1, 2, 5):
            net = tell({**empty(fresh_net(LINE, {"s": 1}, room))}, S, (ROW,) * (room + 2), None, None)
            for many in range(room):
                self.assertIs(may_send(net, S), True)
                net = left_alone(self, sent, net, S)
                self.assertEqual((len(outbox(net, S)), net["channels"][SK]), (room + 1 - many, (("row", ROW),) * (many + 1)))
            self.assertIs(may_send(net, S), False)
            self.check_blocked(sent, net, S)
            self.check_blocked(moved, net, ("send", S), 1)

    def test_the_first_thing_goes_to_the_end_of_its_channel(self):
        net = empty(fresh_net(WIDE, {"s": 2}, 3))
        one, other = (S, 0, K), (S, 0, ("k", 1))
        net = with_things(with_task(net, S, outbox=((one, ("mark", 4)), (other, ("mark", 5)))), one, ("mark", 1), ("mark", 2))
        behind = left_alone(self, sent, net, S)
        self.assertEqual(behind, with_things(with_task(net, S, outbox=((other, ("mark", 5)),)), one, ("mark", 1), ("mark", 2), ("mark", 4)))
        self.assertEqual(moved(net, ("send", S), 1), (behind, None, None))
        # The first one counts alone: that another channel is free is nothing to it.
        self.assertIs(may_send(with_things(net, one, *[("mark", 1)] * 3), S), False)

    def test_what_may_be_taken(self):
        net = with_things(empty(fresh_net(WIDE, {"s": 2}, 3)), SK, ("mark", 1))
        held = with_task(net, K, waiting=(4, (SK,)))
        busy = with_task(net, K, outbox=((KO, ("mark", 1)),))
        for told, may in ((net, True), (with_things(net, SK), False), (held, False), (busy, False), (with_task(net, K, waiting=(4, ((("s", 1), 0, K),))), True),
                          (with_task(net, S, outbox=((SK, ("mark", 1)),)), True), (with_task(net, ("k", 1), outbox=((KO, ("mark", 1)),)), True)):
            self.assertIs(left_alone(self, may_take, told, SK), may)
            self.assertEqual(("take", SK) in can_move(told), may)
            if not may:
                self.check_blocked(taken, told, SK, 1)
                self.check_blocked(moved, told, ("take", SK), 1)


class Taken(unittest.TestCase):
    NET = empty(fresh_net(WIDE, {"s": 2}, 3))
    OTHER = (("s", 1), 0, K)

    def take(self, net, channel, *things, epoch=1):
        net = with_things(net, channel, *things)
        told = left_alone(self, taken, net, channel, epoch)
        self.assertEqual(moved(net, ("take", channel), epoch), told)
        self.assertEqual(told[0]["channels"][channel], tuple(things[1:]))
        return (with_things(told[0], channel),) + told[1:]

    def test_a_row(self):
        awaited = with_task(self.NET, K, outbox=((KO, ("row", ROW)),))
        self.assertEqual(self.take(self.NET, SK, ("row", ROW), ("row", BAD)), (awaited, None, None))
        self.assertEqual(self.take(self.NET, SK, ("row", BAD), ("row", ROW)), (self.NET, None, None))

    def test_a_row_into_a_state(self):
        plan = read_query("s: source k text, n number\nt: sum s by k in even 10 with c = count 1\nout t")
        net = empty(fresh_net(graph(plan, {"s": 1, "t": 1, "out": 1}), {"s": 1}, 3))
        channel = (S, 0, ("t", 0))
        state = sum_put(plan[0][1][1], plan[1][1], (0, ()), ROW)[0]
        self.assertEqual(self.take(net, channel, ("row", ROW)), (with_task(net, ("t", 0), state=state), None, None))

    def test_a_row_goes_in_by_the_number_of_its_input(self):
        net = empty(fresh_net(G, {"s": 1}, 3))
        for side, channel in ((0, (K, 0, ("j", 0))), (1, (S, 1, ("j", 0))), (1, (("s", 1), 1, ("j", 0)))):
            state = [0, (), ()]
            state[1 + side] = ((ROW, 1),)
            self.assertEqual(self.take(net, channel, ("row", ROW)), (with_task(net, ("j", 0), state=tuple(state)), None, None))

    def test_a_row_into_a_sink(self):
        net = with_task(self.NET, OUT, state=((BAD,), ("hold", 1, 1, OUT, ())))
        self.assertEqual(self.take(net, KO, ("row", ROW)), (with_task(net, OUT, state=((BAD, ROW), ("hold", 1, 1, OUT, ()))), None, None))

    def test_marks(self):
        for of, other, m, told, awaited in ((None, None, 5, 0, None), (None, 9, 5, 0, 5), (None, 9, 12, 0, 9), (3, 9, 5, 3, 5), (3, 9, 2, 3, None), (3, 3, 5, 3, None), (3, 9, 5, 6, None),
                                            (None, 9, 0, None, 0), (4, END, END, 4, END), (None, 0, 0, 0, None)):
            net = with_task(self.NET, K, marks={SK: of, self.OTHER: other}, mark=told)
            marks = {SK: m if of is None else max(of, m), self.OTHER: other}
            behind = with_task(net, K, marks=marks)
            if awaited is not None:
                behind = with_task(behind, K, mark=awaited, outbox=((KO, ("mark", awaited)),))
            self.assertEqual(self.take(net, SK, ("mark", m)), (behind, None, None))

    def test_a_mark_into_a_sink(self):
        channels = inputs_of(WIDE, OUT)
        net = with_task(self.NET, OUT, marks={channels[0]: 3, channels[1]: 9}, state=((ROW,), None))
        self.assertEqual(self.take(net, KO, ("mark", 7)), (with_task(net, OUT, marks={channels[0]: 7, channels[1]: 9}, mark=7), None, None))
        self.assertEqual(self.take(with_task(net, OUT, mark=7), KO, ("mark", 7))[0]["tasks"][OUT]["mark"], 7)

    def test_a_mark_that_closes_windows(self):
        plan = read_query("s: source k text, n number\nt: sum s by k in even 10 with c = count 1\nout t")
        net = empty(fresh_net(graph(plan, {"s": 1, "t": 1, "out": 1}), {"s": 1}, 3))
        task, channel = ("t", 0), (S, 0, ("t", 0))
        state = sum_put(plan[0][1][1], plan[1][1], (0, ()), ROW)[0]
        net = with_task(net, task, state=state, marks={channel: 0})
        told = self.take(net, channel, ("mark", 10))
        to_out = (task, 0, OUT)
        self.assertEqual(told, (with_task(net, task, state=(10, ()), marks={channel: 10}, mark=10, outbox=((to_out, ("row", (9, 1, ("a", 0, 10, 1)))), (to_out, ("mark", 10)))), None, None))

    def test_a_barrier_on_the_first_and_on_the_last_input(self):
        for first, second in ((SK, self.OTHER), (self.OTHER, SK)):
            net = with_task(self.NET, K, mark=7)
            behind, kept, letter = self.take(net, first, ("barrier", 4), ("mark", 9))
            self.assertEqual((behind, kept, letter), (with_task(net, K, waiting=(4, (first,))), None, None))
            self.assertIs(may_take(with_things(behind, first, ("mark", 9)), first), False)
            behind, kept, letter = self.take(behind, second, ("barrier", 4))
            self.assertEqual((behind, kept, letter), (with_task(net, K, outbox=((KO, ("barrier", 4)),)), (4, K, (), 7), None))

    def test_what_is_kept_is_the_state(self):
        net = with_task(empty(fresh_net(LINE, {"s": 1}, 3)), K, state=("some", "state"), mark=12)
        self.assertEqual(self.take(net, SK, ("barrier", 9))[1:], ((9, K, ("some", "state"), 12), None))

    def test_a_barrier_into_a_sink(self):
        net = with_task(empty(fresh_net(LINE, {"s": 1}, 3)), OUT, state=((ROW, BAD), ("hold", 1, 1, OUT, ())), mark=6)
        for epoch in (1, 8):
            letter = ("hold", epoch, 2, OUT, (ROW, BAD))
            self.assertEqual(self.take(net, KO, ("barrier", 2), epoch=epoch), (with_task(net, OUT, state=((), letter)), (2, OUT, (), 6), letter))


class Sources(unittest.TestCase):
    NET = empty(fresh_net(LINE, {"s": 2}, 1))

    def test_read(self):
        net = left_alone(self, read_in, self.NET, S, 0, ("row",) + ROW)
        self.assertEqual(net, with_task(self.NET, S, state=(((0, 1, 0), (1, 0, 0)), (), None), outbox=((SK, ("row", ROW)),)))
        net = left_alone(self, read_in, self.NET, S, 1, ("mark", 5))
        self.assertEqual(net, with_task(self.NET, S, state=(((0, 0, 0), (1, 1, 5)), (), None)))
        net = left_alone(self, read_in, net, S, 0, ("mark", 8))
        self.assertEqual(net, with_task(self.NET, S, state=(((0, 1, 8), (1, 1, 5)), (), None), outbox=((SK, ("mark", 5)),), mark=5))
        net = left_alone(self, read_in, with_task(net, S, outbox=()), S, 0, ("row",) + ROW)
        self.assertEqual(net, with_task(self.NET, S, state=(((0, 2, 8), (1, 1, 5)), (ROW,), None), mark=5))

    def test_stopped(self):
        net = with_task(self.NET, S, state=(((0, 2, 8), (1, 1, 5)), (ROW,), None), mark=5)
        behind, kept, letter = left_alone(self, stopped, net, S, 3, 7)
        self.assertEqual((kept, letter), ((7, S, ((0, 2, 8), (1, 1, 5)), 5), ("hold", 3, 7, S, (ROW,))))
        self.assertEqual(behind, with_task(net, S, state=(((0, 2, 8), (1, 1, 5)), (), letter), outbox=((SK, ("barrier", 7)),)))

    def test_stopped_twice_with_nothing_between(self):
        behind, kept, letter = stopped(self.NET, S, 1, 1)
        behind, more, other = stopped(run_idle(behind, 1)[0], S, 1, 2)
        self.assertEqual((kept, more, letter, other), ((1, S, ((0, 0, 0), (1, 0, 0)), 0), (2, S, ((0, 0, 0), (1, 0, 0)), 0), ("hold", 1, 1, S, ()), ("hold", 1, 2, S, ())))
        _, all_kept, letters = run_idle(behind, 1)
        self.assertEqual((all_kept, letters), ([(2, K, (), 0), (2, OUT, (), 0)], [("hold", 1, 2, OUT, ())]))

    def test_a_full_outbox(self):
        for net in (fresh_net(LINE, {"s": 2}, 1), with_task(self.NET, S, outbox=((SK, ("row", ROW)),)), stopped(self.NET, S, 1, 1)[0]):
            for function, arguments in ((read_in, (0, ("row",) + ROW)), (read_in, (1, ("mark", 0))), (stopped, (1, 2))):
                with self.assertRaises(Blocked):
                    function(net, S, *arguments)


class Idle(unittest.TestCase):
    def test_can_move_in_its_order(self):
        net = left_alone(self, fresh_net, WIDE, {"s": 2}, 2)
        self.assertEqual(left_alone(self, can_move, net), [("send", ("k", 0)), ("send", ("k", 1)), ("send", ("s", 0)), ("send", ("s", 1))])
        net = sent(sent(sent(net, S), S), K)
        self.assertEqual(can_move(net), [("send", ("k", 1)), ("send", ("s", 1)), ("take", (("k", 0), 0, OUT)), ("take", (S, 0, ("k", 0)))])

    def test_is_idle(self):
        net = empty(fresh_net(WIDE, {"s": 2}, 2))
        self.assertIs(left_alone(self, is_idle, net), True)
        self.assertEqual(can_move(net), [])
        self.assertIs(is_idle(with_things(net, KO, ("mark", 1))), False)
        self.assertIs(is_idle(with_task(net, OUT, outbox=((KO, ("mark", 1)),))), False)

    def test_run_idle_does_the_first_each_time(self):
        draw = a_draw(521)
        for _ in range(20):
            net = fresh_net(G, {"s": 2}, draw.choice((1, 3)))
            if draw.random() < 0.7:
                net = run_idle(net, 1)[0]
                for number in range(2):
                    net = stopped(net, ("s", number), 4, 1)[0]
            told, all_kept, letters = left_alone(self, run_idle, net, 4)
            kept_then, letters_then = [], []
            while can_move(net):
                net, kept, letter = moved(net, can_move(net)[0], 4)
                kept_then += [kept] * (kept is not None)
                letters_then += [letter] * (letter is not None)
            self.assertEqual((told, all_kept, letters), (net, kept_then, letters_then))
        self.assertEqual((len(all_kept), len(letters)), (12, 2))


class Run:
    """A net that is driven by chance, beside the second telling of it."""

    def __init__(self, test, draw, plan, fed, workers, room, barriers):
        self.test, self.draw, self.fed, self.epoch = test, draw, fed, 5
        self.net = fresh_net(graph(plan, workers), {name: len(fed[name]) for name in fed}, room)
        self.plain = PlainNet(graph(plan, workers), room, {task: (fields["state"], fields["mark"]) for task, fields in self.net["tasks"].items()})
        self.sources = [task for task in self.net["tasks"] if task[0] in fed]
        self.stops = {task: list(range(1, barriers + 1)) for task in self.sources}
        self.kept, self.letters = [], []
        self.compare()

    def compare(self):
        told = self.plain.net()
        self.test.assertEqual(self.net, told)
        self.test.assertEqual(can_move(self.net), self.plain.moves())

    def unread(self, task):
        return [(part, self.fed[task[0]][part][place]) for part, place, _ in self.net["tasks"][task]["state"][0] if place < len(self.fed[task[0]][part])]

    def begins(self):
        """All that source tasks can do now; a number is told by all ahead of the next one."""
        free = [task for task in self.sources if not outbox(self.net, task)]
        least = min([stops[0] for stops in self.stops.values() if stops], default=None)
        can = [("read", task) + found for task in free for found in self.unread(task)]
        return can + [("stop", task) for task in free if self.stops[task][:1] == [least] and least is not None] * 2

    def step(self, can):
        what = self.draw.choice(can)
        told = (None, None)
        if what[0] in ("send", "take"):
            self.net, *told = moved(self.net, what, self.epoch)
            more = self.plain.take(what[1], self.epoch) if what[0] == "take" else self.plain.send(what[1]) or (None, None)
        elif what[0] == "read":
            self.net = read_in(self.net, *what[1:])
            more = self.plain.read(*what[1:]) or (None, None)
        else:
            n = self.stops[what[1]].pop(0)
            self.net, *told = stopped(self.net, what[1], self.epoch, n)
            more = self.plain.stop(what[1], self.epoch, n)
        self.test.assertEqual(tuple(told), tuple(more))
        self.kept += [told[0]] * (told[0] is not None)
        self.letters += [told[1]] * (told[1] is not None)

    def run(self, looks=1.0):
        """All that there is to do, in any order; nothing stands still while something is left."""
        while True:
            moves, begins = can_move(self.net), self.begins()
            if len({len(stops) for stops in self.stops.values()}) <= 1:
                self.test.assertEqual(moves == [], is_idle(self.net))
            if not moves and not begins:
                return
            self.step(begins if begins and (not moves or self.draw.random() < 0.2) else moves)
            if self.draw.random() < looks:
                self.compare()
                self.look_blocked()

    def look_blocked(self):
        moves = can_move(self.net)
        for task in self.net["tasks"]:
            self.test.assertEqual(may_send(self.net, task), ("send", task) in moves)
        for channel in self.net["channels"]:
            self.test.assertEqual(may_take(self.net, channel), ("take", channel) in moves)


def a_case(draw, steps=5, most=4):
    query = a_query(draw, draw.randint(1, steps), judge_query, columns_of)
    plan = planned(query)[0] if draw.random() < 0.5 else query
    fed = an_input(draw, plan, sources_of, columns_of, most=most)
    return plan, {name: fed[name] for name in sources_of(plan)}, {name: draw.randint(1, 3) for name, _ in plan}


class ForAll(unittest.TestCase):
    def test_the_second_telling(self):
        draw = a_draw(522)
        for _ in range(60):
            plan, fed, workers = a_case(draw)
            run = Run(self, draw, plan, fed, workers, draw.choice((1, 1, 2, 6)), draw.choice((0, 1, 3)))
            run.run(looks=0.3)
            self.assertEqual(run.unread(run.sources[0]), [])

    def script(self, draw, fed, dealt, barriers):
        """For each source task what it does, in order."""
        found = {}
        for task, parts in dealt.items():
            left = [part for part in parts for _ in fed[task[0]][part]]
            draw.shuffle(left)
            done = {part: iter(fed[task[0]][part]) for part in parts}
            reads = [("read", part, next(done[part])) for part in left]
            cuts = sorted(draw.randint(0, len(reads)) for _ in range(barriers))
            for n, place in reversed(list(enumerate(cuts, 1))):
                reads.insert(place, ("stop", n))
            found[task] = reads
        return found

    def follow(self, draw, net, script, order):
        """The net when all has been done; each task does its own in order, else chance or the first each time."""
        script, kept, letters, rows = {task: list(script[task]) for task in script}, [], [], []
        while True:
            moves = can_move(net)
            free = [task for task in script if script[task] and not outbox(net, task)]
            told = [script[task][0][1] for task in script if script[task] and script[task][0][0] == "stop"]
            free = [task for task in free if script[task][0][0] == "read" or script[task][0][1] == min(told)]
            if not moves and not free:
                self.assertIs(is_idle(net), True)
                return net, kept, letters
            ahead = {"eager": free, "lazy": moves, "any": draw.choice((moves, free))}[order] or moves or free
            what = draw.choice(ahead) if order != "lazy" or not moves else moves[0]
            if what in free:
                word, *rest = script[what].pop(0)
                if word == "read":
                    net = read_in(net, what, *rest)
                    continue
                net, own, letter = stopped(net, what, 1, rest[0])
            else:
                net, own, letter = moved(net, what, 1)
            kept += [own] * (own is not None)
            letters += [letter] * (letter is not None)

    def bags(self, letters):
        """For each number and step, the rows that are held, as a bag."""
        found = collections.Counter()
        for word, _, n, task, rows in letters:
            self.assertEqual(word, "hold")
            found.update((n, task[0], row) for row in rows)
        return found

    def test_beginnings_do_not_hang_on_the_order(self):
        """8.9: equal states, marks, bags of rows and letters between the same barriers, whatever is done first."""
        draw, rows_seen = a_draw(523), 0
        for _ in range(60):
            plan, fed, workers = a_case(draw, most=5)
            begun = fresh_net(graph(plan, workers), {name: len(fed[name]) for name in fed}, 1)
            dealt = {task: [part for part, _, _ in fields["state"][0]] for task, fields in begun["tasks"].items() if task[0] in fed}
            script, ends = self.script(draw, fed, dealt, draw.choice((0, 1, 3))), []
            for order, room in (("eager", 1), ("lazy", 1), ("any", 1), ("any", 2), ("any", 9), ("eager", 20)):
                net, kept, letters = self.follow(draw, {**begun, "credits": room}, script, order)
                inner = {task: (fields["state"], fields["mark"], fields["marks"], fields["waiting"]) for task, fields in net["tasks"].items() if task[0] != "out"}
                sinks = {task: (fields["mark"], fields["marks"]) for task, fields in net["tasks"].items() if task[0] == "out"}
                left = collections.Counter(row for task, fields in net["tasks"].items() if task[0] == "out" for row in fields["state"][0])
                ends.append((inner, sinks, left, sorted(kept, key=repr), self.bags(letters), sorted(letter[:4] for letter in letters)))
                rows_seen += sum(left.values()) > 0
            for end in ends:
                self.assertEqual(end, ends[0])
        self.assertGreater(rows_seen, 100)

    def test_all_of_the_meaning(self):
        """With a mark at the end behind all, what sinks have is what the plan means."""
        draw = a_draw(524)
        for _ in range(60):
            plan, fed, workers = a_case(draw, most=5)
            fed = {name: tuple(part + (("mark", END),) for part in fed[name]) for name in fed}
            run = Run(self, draw, plan, fed, workers, draw.choice((1, 2, 5)), draw.choice((0, 2)))
            run.run(looks=0.02)
            rows = [row for letter in run.letters if letter[3][0] == "out" for row in letter[4]]
            rows += [row for task, fields in run.net["tasks"].items() if task[0] == "out" for row in fields["state"][0]]
            self.assertEqual(dict(collections.Counter(rows)), meaning(unplanned(plan), fed))


if __name__ == "__main__":
    unittest.main()
