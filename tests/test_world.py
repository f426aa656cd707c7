import collections
import copy
import unittest

from oncestream.control import again, back, begin, hear, records_of, renewed
from oncestream.errors import BadScript
from oncestream.graphs import graph, tasks_of
from oncestream.groups import begun_of, fresh_kept, moved
from oncestream.logs import entries_of, written
from oncestream.meaning import END
from oncestream.nets import can_move
from oncestream.nets import moved as net_moved
from oncestream.nets import net_of
from oncestream.outside import fresh_outside, heard
from oncestream.planner import planned
from oncestream.seals import sealed, word_text
from oncestream.shelves import cleared, kept_on, kept_text, tasks_on
from oncestream.texts import read_query
from oncestream.world import (after, calm, input_of, is_event, judge_world, late_outside, new_world, places_read, played,
                              told_outside, unsettled, why)
from tests.makers import ANYTHING, a_draw, exchanged, within
from tests.plainworld import PlainWorld
from tests.scripting import a_case, a_world, all_feeds, an_event, calm_event
from tests.untouched import left_alone, looked_at

QUERY = read_query("""s: source who text, n number
z: source n number
t: sum s by who in even 10 with c = count 1
out t""")
WORKERS = (("out", 1), ("s", 2), ("t", 2), ("z", 1))
OTHERS = (("out", 2), ("s", 1), ("t", 3), ("z", 2))
PARTS = {"s": 3, "z": 1}
ROW, LATE, MARK = ("row", 3, 1, ("a", 5)), ("row", 2, 1, ("b", 1)), ("mark", 10)
S, ELSE, Z, OUT = ("s", 0), ("s", 1), ("z", 0), ("out", 0)
FIELDS = {"plan", "logs", "credits", "workers", "net", "shelf", "disk", "control", "outside", "air", "cuts"}
FED = [("feed", "s", 0, ROW), ("feed", "s", 0, MARK), ("feed", "s", 0, LATE), ("feed", "s", 1, MARK), ("feed", "s", 2, MARK), ("feed", "z", 0, ("row", 1, 1, (None,)))]


class Both:
    """A world, and the second telling of it, to which the same happens."""

    def __init__(self, test, plan=QUERY, parts=None, workers=WORKERS, room=2):
        self.test, parts = test, PARTS if parts is None else parts
        self.world, self.plain = new_world(plan, parts, workers, room), PlainWorld(plan, parts, workers, room)
        test.assertEqual(self.world, self.plain.world())

    def do(self, *events):
        for event in events:
            self.test.assertIs(is_event(self.world, event), True)
            self.world = after(self.world, event)
            self.plain.after(event)
            self.test.assertEqual(self.world, self.plain.world(), event)
            self.test.assertEqual(set(self.world), FIELDS)
        return self

    def twin(self):
        other = copy.copy(self)
        other.plain = copy.deepcopy(self.plain)
        return other

    def idle(self):
        """Behind all moves."""
        while can_move(self.world["net"]):
            self.do(("move", 0))
        return self

    def hear_all(self, *words):
        """Behind the hearing of all letters with these words (of all without any), those too that come of it."""
        while [letter for letter in self.world["air"] if not words or letter[0] in words]:
            self.do(("hear", [not words or letter[0] in words for letter in self.world["air"]].index(True)))
        return self

    def running(self):
        """In the phase "run", with nothing on the way."""
        return self.hear_all().idle()

    def begun(self):
        """With a number that goes on, all letters to source tasks in the air."""
        return self.running().do(("begin",))

    def stopped(self):
        """With all states kept, and all letters of that in the air."""
        return self.begun().hear_all("begin").idle()

    def nearly(self):
        """With one letter in the air, behind which the number is complete."""
        self.stopped().hear_all("hold", "kept")
        while len(self.world["air"]) > 1:
            self.do(("hear", 0))
        return self

    def complete(self):
        """In the phase "commit"."""
        return self.nearly().do(("hear", 0))


class Begun(unittest.TestCase):
    def test_fields(self):
        world = left_alone(self, new_world, QUERY, PARTS, WORKERS, 3)
        self.assertEqual(set(world), FIELDS)
        control = {"query": QUERY, "workers": WORKERS, "epoch": 1, "last": 0, "last_epoch": 0, "last_workers": (), "phase": "drop", "kept": (), "held": ()}
        net = net_of(graph(QUERY, dict(WORKERS)), 3, begun_of(QUERY, fresh_kept(QUERY, WORKERS, PARTS)))
        logs = {("s", 0): "", ("s", 1): "", ("s", 2): "", ("z", 0): ""}
        awaited = {"plan": QUERY, "logs": logs, "credits": 3, "workers": WORKERS, "net": net, "shelf": "", "disk": sealed(word_text(("epoch", 1, WORKERS))), "control": control,
                   "outside": fresh_outside(), "air": (("drop", 1, 0),), "cuts": ()}
        self.assertEqual(world, awaited)

    def test_parts(self):
        for many in range(5):
            world = new_world(QUERY, {"s": many, "z": 0}, WORKERS, 1)
            self.assertEqual(list(world["logs"]), [("s", part) for part in range(many)])
            self.assertEqual(input_of(world), {"s": ((),) * many, "z": ()})
            self.assertEqual(told_outside(calm(world)[0]), {})


class Events(unittest.TestCase):
    """13.2: what is an event of a world, and what is none."""

    WORLD = new_world(QUERY, PARTS, WORKERS, 1)
    RIGHT = (
        FED[0], FED[1], ("feed", "z", 0, ("mark", 0)), ("feed", "s", 2, ("row", 10 ** 8, -1, (None, None))), ("feed", "s", 1, ("mark", END)), ("read", 0), ("read", 10 ** 60), ("move", 7), ("begin",), ("again",),
        ("hear", 3), ("lose", 0), ("double", 10 ** 9), ("fall",), ("stop",), ("workers", WORKERS), ("workers", OTHERS), ("workers", tuple((name, 4) for name, _ in WORKERS)),
        ("torn", FED[0], 0), ("torn", ("read", 1), 5), ("torn", ("move", 1), 10 ** 60), ("torn", ("begin",), 1), ("torn", ("hear", 1), 1), ("torn", ("fall",), 1), ("torn", ("workers", OTHERS), 0),
    )

    def test_right_ones(self):
        for value in self.RIGHT:
            self.assertIs(left_alone(self, is_event, self.WORLD, value), True, value)

    def wrong(self):
        found = [("torn", event, 0) for event in (("again",), ("lose", 0), ("double", 0), ("stop",), ("torn", ("fall",), 0), ("torn", ("read", 0), 0), None, (), "fall", ["fall"], ("calm",), ("fall", 0))]
        found += [("torn", ("fall",), keep) for keep in (-1, True, False, None, "1", (), 0 - 10 ** 30)] + [("torn", ("fall",)), ("torn",), ("torn", ("fall",), 0, 0), ("torn", 0, ("fall",)), ["torn", ("fall",), 0]]
        for word in ("read", "move", "hear", "lose", "double"):
            found += [(word, k) for k in (-1, True, False, None, "0", (), (0,), [], {})] + [(word,), (word, 0, 0), [word, 0], ((word, 0),), (word + " ", 0)]
        for word in ("begin", "again", "fall", "stop"):
            found += [(word, 0), (word, None), [word], word, (word, ()), ((word,),)]
        for entry in (None, (), ("mark",), ("mark", -1), ("mark", END + 1), ("mark", True), ("row",) + ROW[1:3], ("row", 3, 1, ("a",)), ("row", 3, 1, (5, "a")), ("row", 3, 1, ("a", 5, 5)), ("row", 3, 1, ["a", 5]),
                      ("row", 10 ** 8 + 1, 1, ("a", 5)), ("row", -1, 1, ("a", 5)), ("row", 3, 0, ("a", 5)), ("row", 3, True, ("a", 5)), ("row", 3, 1, ("a", True)), ("row", 3, 1, ("a.b", 5)), list(ROW), ("barrier", 1), MARK + (0,)):
            found.append(("feed", "s", 0, entry))
        for source, part in (("s", 3), ("s", -1), ("s", True), ("s", False), ("s", None), ("s", "0"), ("s", (0,)), ("z", 1), ("t", 0), ("out", 0), ("x", 0), ("", 0), (None, 0), (0, "s"), (["s"], 0), (("s", 0), 0), ({}, [])):
            found.append(("feed", source, part, MARK))
        found += [("feed", "z", 0, ROW), ("feed", "s", 0), ("feed", "s", 0, MARK, 0), ["feed", "s", 0, MARK], ("feed", ("s", 0), MARK), ("fed", "s", 0, MARK)]
        for workers in ((), WORKERS[:3], WORKERS[1:], WORKERS[::-1], WORKERS + (("zz", 1),), (("a", 1),) + WORKERS, (("out", 0),) + WORKERS[1:], (("out", 5),) + WORKERS[1:], (("out", True),) + WORKERS[1:],
                        (("out", None),) + WORKERS[1:], (("out",),) + WORKERS[1:], (["out", 1],) + WORKERS[1:], list(WORKERS), dict(WORKERS), None, 4, "out", WORKERS[:1] + WORKERS, (("Out", 1),) + WORKERS[1:]):
            found += [("workers", workers), ("torn", ("workers", workers), 0)]
        found += [("workers",), ("workers", WORKERS, 0), ("calm",), ("undo",), (), [], {}, None, True, 5, "fall", ((),), (None,), ([],), ({},), (True,), (within(29),)]
        return found + [value for value in ANYTHING]

    def test_wrong_ones(self):
        for value in self.wrong():
            self.assertIs(is_event(self.WORLD, value), False, value)
            with self.assertRaises(BadScript) as caught:
                after(self.WORLD, value)
            self.assertEqual(caught.exception.number, 0)
        for value in self.wrong()[::9]:
            self.assertIs(left_alone(self, is_event, self.WORLD, value), False, value)

    def test_one_thing_exchanged(self):
        for event in (FED[0], FED[1], ("workers", OTHERS), ("torn", ("read", 1), 5), ("fall",)):
            for value in exchanged(event, lambda thing: [True, [thing], {}, "!", -10 ** 9] + ([list(thing)] if isinstance(thing, tuple) else [])):
                # A value of the row may be any number.
                self.assertIs(is_event(self.WORLD, value), value == ("feed", "s", 0, ("row", 3, 1, ("a", -10 ** 9))), value)

    def test_played_tells_the_first_wrong_one_ahead_of_everything(self):
        right = [FED[0], ("read", 0), ("torn", ("fall",), 3), ("hear", 0)]
        for value in (None, ("calm",), ("read", True), ["fall"], ("feed", "s", 3, MARK)):
            for at in range(5):
                for behind in ([], [None]):
                    with self.assertRaises(BadScript) as caught:
                        played(self.WORLD, right[:at] + [value] + right[at:] + behind)
                    self.assertEqual(caught.exception.number, at)
        self.assertEqual(played(self.WORLD, []), self.WORLD)


class Workers(unittest.TestCase):
    """Logs that grow, entries that are read, things that move."""

    def test_feed(self):
        both = Both(self)
        elder, entries = both.world, []
        for event in FED[:3]:
            world = both.do(event).world
            entries.append(event[3])
            self.assertEqual(world, {**elder, "logs": {**elder["logs"], ("s", 0): written("", entries)}})
        self.assertEqual(input_of(world), {"s": (tuple(entries), (), ()), "z": ((),)})

    def test_feed_that_is_torn(self):
        text = sealed(word_text(LATE))
        for keep in list(range(len(text) + 2)) + [10 ** 6]:
            both = Both(self).do(*FED[:2])
            elder, log = both.world, both.world["logs"][("s", 0)]
            world = both.do(("torn", ("feed", "s", 0, LATE), keep)).world
            self.assertEqual(world, {**elder, "logs": {**elder["logs"], ("s", 0): log + text[:keep]}})
            self.assertEqual(input_of(world)["s"][0], (ROW, MARK) + ((LATE,) if keep >= len(text) else ()))
            # The torn end is cut away when the log is written to, not ahead of that.
            world = both.do(("feed", "s", 1, MARK), ("torn", ("feed", "s", 2, MARK), 0), ("fall",)).world
            self.assertEqual(world["logs"][("s", 0)], log + text[:keep])
            world = both.do(("torn", ("feed", "s", 0, MARK), 4)).world
            self.assertEqual(world["logs"][("s", 0)], (log + text if keep >= len(text) else log) + sealed(word_text(MARK))[:4])
            world = both.do(("feed", "s", 0, MARK)).world
            self.assertEqual(world["logs"][("s", 0)], (log + text if keep >= len(text) else log) + sealed(word_text(MARK)))

    def test_read_takes_one_of_the_list(self):
        both = Both(self).running()
        self.assertEqual(both.twin().do(("read", 0), ("read", 5)).world, both.world)
        both.do(*FED)
        # Tasks in their order, parts ascending: s 0 has the parts 0 and 2, s 1 the part 1, z 0 its one.
        for k, place in ((0, ("s", 0)), (1, ("s", 2)), (2, ("s", 1)), (3, ("z", 0)), (4, ("s", 0)), (10 ** 30 + 1, ("s", 2))):
            world = both.twin().do(("read", k)).world
            self.assertEqual([part for part, read in places_read(world) if read], [place])
            self.assertEqual({**world, "net": None}, {**both.world, "net": None})
        # A source task with a full outbox does not read; then the list is shorter.
        both.do(("read", 0))
        self.assertEqual([part for part, read in places_read(both.twin().do(("read", 0)).world) if read], [("s", 0), ("s", 1)])
        both.idle().do(("read", 0))
        self.assertEqual(dict(places_read(both.world)), {("s", 0): 2, ("s", 1): 0, ("s", 2): 0, ("z", 0): 0})
        # The late row gives nothing, so its task can read on at once.
        both.idle().do(("read", 0), ("read", 0))
        self.assertEqual(dict(places_read(both.world)), {("s", 0): 3, ("s", 1): 0, ("s", 2): 1, ("z", 0): 0})

    def test_what_is_not_whole_is_not_read(self):
        both = Both(self).running().do(("torn", FED[0], 9))
        self.assertEqual(both.twin().do(("read", 0)).world, both.world)

    def test_move_does_one_of_the_list(self):
        both = Both(self).do(("move", 0), ("move", 3), ("move", 2))
        moves = can_move(both.world["net"])
        self.assertEqual({word for word, _ in moves}, {"send", "take"})
        for k in (0, 1, len(moves) - 1, len(moves), 10 ** 60 + 1):
            net, kept, letter = net_moved(both.world["net"], moves[k % len(moves)], 1)
            self.assertEqual((both.twin().do(("move", k)).world, kept, letter), ({**both.world, "net": net}, None, None))
        both.running()
        self.assertEqual(both.twin().do(("move", 0), ("move", 9)).world, both.world)

    def test_what_is_kept_goes_on_the_shelf_and_into_the_air(self):
        both = Both(self).begun().hear_all("begin")
        air, shelf, told = both.world["air"], both.world["shelf"], []
        while can_move(both.world["net"]):
            elder = both.world
            both.do(("move", 3))
            kept = kept_on(both.world["shelf"])[len(kept_on(elder["shelf"])):]
            letters = both.world["air"][len(elder["air"]):]
            if kept:
                epoch, n, task, state, mark = kept[0]
                hold = (("hold", 1, 1, task, ()),) if task == OUT else ()
                self.assertEqual((epoch, n, letters), (1, 1, (("kept", 1, 1, task),) + hold))
                self.assertEqual(both.world["shelf"], elder["shelf"] + kept_text(*kept[0]))
                told.append(task)
            else:
                self.assertEqual((letters, both.world["shelf"]), ((), elder["shelf"]))
        self.assertEqual(sorted(told), [OUT, ("t", 0), ("t", 1)])


class Letters(unittest.TestCase):
    def test_lose_and_double(self):
        both = Both(self).begun()
        air = both.world["air"]
        self.assertEqual(len(air), 3)
        for k in (0, 1, 2, 3, 7, 10 ** 60):
            self.assertEqual(both.twin().do(("lose", k)).world, {**both.world, "air": air[:k % 3] + air[k % 3 + 1:]})
            self.assertEqual(both.twin().do(("double", k)).world, {**both.world, "air": air + (air[k % 3],)})
        both = Both(self).running()
        self.assertEqual(both.world["air"], ())
        for word in ("lose", "double", "hear"):
            self.assertEqual(both.twin().do((word, 0), (word, 8)).world, both.world)

    def test_begin_in_each_phase(self):
        for both in (Both(self), Both(self).begun(), Both(self).complete()):
            self.assertIn(both.world["control"]["phase"], ("drop", "barrier", "commit"))
            self.assertEqual(both.twin().do(("begin",)).world, both.world)
        both = Both(self).running()
        world = both.twin().do(("begin",)).world
        self.assertEqual(world, {**both.world, "control": begin(both.world["control"])[0], "air": tuple(("begin", 1, 1, task) for task in (S, ELSE, Z))})

    def test_again_in_each_phase(self):
        drop = Both(self)
        self.assertEqual(drop.twin().do(("again",)).world, {**drop.world, "air": (("drop", 1, 0), ("drop", 1, 0))})
        run = Both(self).running()
        self.assertEqual(run.twin().do(("again",)).world, run.world)
        barrier = Both(self).begun().do(("hear", 1))
        kept, hold = ("kept", 1, 1, ELSE), ("hold", 1, 1, ELSE, ())
        begins = tuple(("begin", 1, 1, task) for task in (S, Z))
        self.assertEqual(barrier.world["air"], begins + (kept, hold))
        self.assertEqual(barrier.twin().do(("again",)).world["air"], begins + (kept, hold) + (begins[0], ("begin", 1, 1, ELSE), begins[1], kept, hold))
        barrier.do(("hear", 2))
        self.assertEqual(barrier.twin().do(("again",)).world["air"], begins + (hold,) + begins + (kept, hold))
        both = Both(self).stopped()
        holds = tuple(("hold", 1, 1, task, ()) for task in (S, ELSE, Z, OUT))
        told = tuple(("kept", 1, 1, task) for task in (S, ELSE, Z, ("t", 0), ("t", 1), OUT))
        begins = tuple(("begin", 1, 1, task) for task in (S, ELSE, Z))
        self.assertEqual(both.twin().do(("again",)).world["air"], both.world["air"] + begins + told + holds)
        commit = Both(self).complete()
        self.assertEqual(commit.twin().do(("again",)).world["air"], commit.world["air"] * 2 + holds)
        # What stands on the shelf under another number, or in another phase, is not told again; holders tell their last letter.
        run = commit.hear_all()
        self.assertEqual(run.world["control"]["phase"], "run")
        self.assertEqual(run.twin().do(("again",)).world["air"], holds)
        fallen = Both(self).stopped().do(("fall",))
        self.assertEqual(fallen.world["air"][-1], ("drop", 2, 0))
        self.assertEqual(fallen.twin().do(("again",)).world["air"], fallen.world["air"] + (("drop", 2, 0),))

    def test_letters_to_control_and_to_the_outside(self):
        both = Both(self).do(("hear", 4))
        self.assertEqual((both.world["air"], both.world["outside"]), ((("dropped", 1),), (1, (), ())))
        both.do(("hear", 0))
        self.assertEqual((both.world["air"], both.world["control"]["phase"]), ((), "run"))
        both.stopped()
        for k, letter in enumerate(both.world["air"]):
            world, left = both.twin().do(("hear", k + 5 * len(both.world["air"]))).world, both.world["air"][:k] + both.world["air"][k + 1:]
            if letter[0] == "hold":
                outside, answers = heard(both.world["outside"], letter)
                self.assertEqual(world, {**both.world, "outside": outside, "air": left + answers})
            else:
                self.assertEqual(world, {**both.world, "control": hear(both.world["control"], letter)[0], "air": left})

    def test_begin_with_an_empty_outbox(self):
        both = Both(self).do(*FED).running().do(("read", 0)).idle().do(("begin",))
        world = both.twin().do(("hear", 3)).world
        state = ((0, 1, 0), (2, 0, 0))
        self.assertEqual(world["shelf"], kept_text(1, 1, S, state, 0))
        self.assertEqual(world["air"], tuple(("begin", 1, 1, task) for task in (ELSE, Z)) + (("kept", 1, 1, S), ("hold", 1, 1, S, ())))
        self.assertEqual([thing for _, thing in world["net"]["tasks"][S]["outbox"]], [("barrier", 1)] * 2)
        self.assertEqual({**world, "shelf": "", "air": (), "net": None}, {**both.world, "air": (), "net": None})

    def test_begin_with_another_outbox_goes_back_to_the_end(self):
        both = Both(self).do(*FED).begun().do(("read", 0))
        begins = tuple(("begin", 1, 1, task) for task in (S, ELSE, Z))
        self.assertEqual(both.twin().do(("hear", 0)).world, {**both.world, "air": begins[1:] + begins[:1]})
        self.assertEqual(both.twin().do(("hear", 0), ("hear", 0), ("hear", 1)).world["air"][:2], (begins[2], ("kept", 1, 1, ELSE)))

    def test_begin_that_is_told_already(self):
        both = Both(self).begun().do(("double", 0), ("double", 0), ("hear", 0)).idle()
        self.assertEqual([letter for letter in both.world["air"] if letter == ("begin", 1, 1, S)], [("begin", 1, 1, S)] * 2)
        at = both.world["air"].index(("begin", 1, 1, S))
        air = both.world["air"][:at] + both.world["air"][at + 1:]
        self.assertEqual(both.twin().do(("hear", at)).world, {**both.world, "air": air})
        # Nor is it when the number is complete, and cleared from the shelf by the next one.
        both.hear_all("hold")
        late = both.do(("double", both.world["air"].index(("begin", 1, 1, S)))).hear_all("kept", "held")
        while late.world["control"]["last"] == 0:
            place = [letter[0] != "begin" or letter[3] != S for letter in late.world["air"]].index(True)
            late.do(("hear", place)).idle()
        self.assertIn(("begin", 1, 1, S), late.world["air"])
        for _ in range(2):
            at = late.world["air"].index(("begin", 1, 1, S))
            air = late.world["air"][:at] + late.world["air"][at + 1:]
            self.assertEqual(late.twin().do(("hear", at)).world, {**late.world, "air": air})
            late.do(("double", at)).hear_all("commit", "done").do(("begin",))

    def test_begin_of_a_number_long_complete(self):
        """It stands no more on the shelf, but it is complete: so its tasks have told it."""
        both = Both(self).do(*FED).begun().do(("double", 0)).do(("hear", 0)).idle()
        late = ("begin", 1, 1, S)

        def hear_but_late():
            while [letter for letter in both.world["air"] if letter != late]:
                both.do(("hear", [letter != late for letter in both.world["air"]].index(True))).idle()

        hear_but_late()
        both.do(("read", 0)).idle().do(("begin",))
        hear_but_late()
        self.assertEqual((both.world["control"]["last"], both.world["air"]), (2, (late,)))
        self.assertEqual(tasks_on(both.world["shelf"], 1, 1), ())
        self.assertEqual(both.twin().do(("hear", 0)).world, {**both.world, "air": ()})

    def test_begin_of_another_epoch(self):
        for event in (("fall",), ("stop",), ("workers", OTHERS), ("torn", ("read", 0), 0)):
            both = Both(self).begun().do(event)
            self.assertEqual(both.world["air"][:3], tuple(("begin", 1, 1, task) for task in (S, ELSE, Z)))
            for k in range(3):
                self.assertEqual(both.twin().do(("hear", k)).world, {**both.world, "air": both.world["air"][:k] + both.world["air"][k + 1:]})


class Falls(unittest.TestCase):
    """Falls, changes of workers, and control that stops, in each phase."""

    def phases(self):
        yield "drop", Both(self).do(*FED)
        yield "run", Both(self).do(*FED).running().do(("read", 0), ("move", 0))
        yield "barrier", Both(self).do(*FED).begun().do(("read", 0), ("hear", 1), ("move", 0))
        yield "commit", Both(self).do(*FED).running().do(("read", 0)).idle().do(("read", 0)).complete()
        yield "run", Both(self).do(*FED).running().do(("read", 0)).complete().hear_all().do(("read", 0))
        yield "barrier", Both(self).do(*FED).running().do(("read", 0)).complete().hear_all().do(("read", 0)).stopped()

    def check_net(self, elder, world):
        """The net is made anew of what was kept under the last complete number."""
        control = world["control"]
        if control["last"] == 0:
            kept = fresh_kept(QUERY, control["workers"], PARTS)
        else:
            on = {told[2]: told[3:] for told in kept_on(elder["shelf"]) if told[:2] == (control["last_epoch"], control["last"])}
            self.assertEqual(set(on), set(tasks_of(graph(QUERY, dict(control["last_workers"])))))
            kept = moved(QUERY, control["last_workers"], control["workers"], on)
        self.assertEqual(world["net"], net_of(graph(QUERY, dict(control["workers"])), 2, begun_of(QUERY, kept)))
        self.assertEqual(world["workers"], control["workers"])

    def test_in_each_phase(self):
        for phase, both in self.phases():
            elder = both.world
            self.assertEqual(elder["control"]["phase"], phase)
            for event, triple in ((("fall",), renewed(elder["control"], WORKERS)), (("workers", OTHERS), renewed(elder["control"], OTHERS)), (("stop",), back(QUERY, WORKERS, elder["disk"]))):
                world = both.twin().do(event).world
                control, records, letters = triple
                disk = elder["disk"] + "".join(sealed(word_text(told)) for told in records)
                self.assertEqual({**world, "net": None}, {**elder, "net": None, "workers": control["workers"], "control": control, "disk": disk, "air": elder["air"] + letters})
                self.check_net(elder, world)
                self.assertEqual(told_outside(both.twin().do(event).hear_all().world), told_outside(both.twin().hear_all("commit", "done").world))

    def test_changed_twice_while_a_commit_is_not_done(self):
        both = Both(self).do(*FED).running().do(("read", 0)).complete()
        commit = both.world["air"][-1]
        both.do(("workers", OTHERS), ("workers", WORKERS), ("fall",), ("workers", OTHERS))
        control = both.world["control"]
        self.assertEqual((control["phase"], control["epoch"], control["last"], control["last_epoch"], control["last_workers"]), ("commit", 5, 1, 1, WORKERS))
        self.assertEqual(both.world["air"], (commit,) * 5)
        self.check_net(both.world, both.world)
        both.do(("hear", 0), ("hear", 4))
        self.assertEqual((both.world["control"]["phase"], both.world["air"][-1]), ("drop", ("drop", 5, 1)))
        self.assertEqual(dict(places_read(both.world)), {("s", 0): 1, ("s", 1): 0, ("s", 2): 0, ("z", 0): 0})

    def test_a_number_that_goes_on_is_given_up(self):
        both = Both(self).do(*FED).stopped().do(("workers", OTHERS)).running()
        self.assertEqual((both.world["control"]["last"], both.world["outside"][1]), (0, ()))
        self.assertEqual([told[:2] for told in kept_on(both.world["shelf"])], [(1, 1)] * 6)
        both.complete()
        self.assertEqual(both.world["cuts"], ((1, ((("s", 0), 0), (("s", 1), 0), (("s", 2), 0), (("z", 0), 0))),))
        self.assertEqual({told[:2] for told in kept_on(both.world["shelf"])}, {(2, 1)})


class Torn(unittest.TestCase):
    """13.2: an event that is torn."""

    def cut_back(self, elder, shelf, disk, air):
        """The world behind the fall of control, with these on its shelf, on its disk, and in the air."""
        control, records, letters = back(QUERY, elder["workers"], disk)
        told = "".join(sealed(word_text(record)) for record in records_of(disk)) + "".join(sealed(word_text(record)) for record in records)
        return {**elder, "net": None, "workers": control["workers"], "control": control, "shelf": shelf, "disk": told, "air": air + letters}

    def check(self, both, event, keep, shelf_text="", disk_text="", air=None):
        elder = both.world
        world = both.twin().do(("torn", event, keep)).world
        awaited = self.cut_back(elder, elder["shelf"] + shelf_text[:keep], elder["disk"] + disk_text[:keep], elder["air"] if air is None else air)
        self.assertEqual({**world, "net": None}, awaited)
        return world

    def keeps(self, text):
        return (0, 1, len(text) // 2, len(text) - 1, len(text), len(text) + 1, 10 ** 6)

    def test_what_writes_nothing(self):
        for both in (Both(self), Both(self).do(*FED).running(), Both(self).do(*FED).begun()):
            for event in (("read", 0), ("begin",), ("move", 0)):
                for keep in (0, 1, 10 ** 6):
                    world = self.check(both, event, keep)
                    self.assertEqual((world["control"]["epoch"], world["air"][-1]), (2, ("drop", 2, 0)))
        # An event that could do nothing: nothing to read, nothing to move, nothing to hear.
        both = Both(self).running()
        for event in (("read", 0), ("move", 0), ("hear", 0)):
            self.check(both, event, 5)

    def test_a_state_that_is_kept(self):
        both = Both(self).do(*FED).begun().hear_all("begin")

        def keeping():
            moves = range(len(can_move(both.world["net"])))
            return [k for k in moves if both.twin().do(("move", k)).world["shelf"] != both.world["shelf"]]

        while not keeping():
            both.do(("move", 0))
        k = keeping()[0]
        text = both.twin().do(("move", k)).world["shelf"][len(both.world["shelf"]):]
        for keep in range(len(text) + 2):
            world = self.check(both, ("move", k), keep, shelf_text=text)
            self.assertEqual(len(kept_on(world["shelf"])), len(kept_on(both.world["shelf"])) + (keep >= len(text)))

    def test_a_source_task_that_stops(self):
        both = Both(self).do(*FED).begun()
        text, air = kept_text(1, 1, ELSE, ((1, 0, 0),), 0), both.world["air"]
        for keep in range(len(text) + 2):
            self.check(both, ("hear", 1), keep, shelf_text=text, air=air[:1] + air[2:])
        # The letter is gone, also where it would have gone back or meant nothing.
        both.do(("read", 0))
        self.check(both, ("hear", 0), 10, air=air[1:])

    def test_letters_that_are_heard_are_gone(self):
        both = Both(self)
        world = self.check(both, ("hear", 0), 50, air=())
        self.assertEqual(world["outside"], fresh_outside())
        both.do(("hear", 0))
        world = self.check(both, ("hear", 0), 50, air=())
        both = Both(self).stopped()
        air = both.world["air"]
        for k in range(len(air)):
            world = self.check(both, ("hear", k), 10 ** 6, air=air[:k] + air[k + 1:])
            self.assertEqual(world["outside"], both.world["outside"])

    def test_workers_that_fall_or_change(self):
        for both in (Both(self).do(*FED).running(), Both(self).complete()):
            for event, workers in ((("fall",), WORKERS), (("workers", OTHERS), OTHERS)):
                text = sealed(word_text(("epoch", 2, workers)))
                for keep in range(len(text) + 2):
                    world = self.check(both, event, keep, disk_text=text)
                    self.assertEqual((world["control"]["epoch"], world["workers"]), (3, workers) if keep >= len(text) else (2, WORKERS))

    def test_a_number_that_becomes_complete(self):
        both = Both(self).do(*FED).running().do(("read", 0)).nearly()
        text = sealed(word_text(("complete", 1, 1, WORKERS)))
        elder = both.world
        for keep in range(len(text) + 2):
            world = both.twin().do(("torn", ("hear", 0), keep)).world
            awaited = self.cut_back(elder, elder["shelf"], elder["disk"] + text[:keep], ())
            places = ((("s", 0), 1), (("s", 1), 0), (("s", 2), 0), (("z", 0), 0))
            self.assertEqual({**world, "net": None}, {**awaited, "cuts": ((1, places),) if keep >= len(text) else ()})
            self.assertEqual(world["air"], (("commit", 1, 1, (OUT, S, ELSE, Z)),) if keep >= len(text) else (("drop", 2, 0),))
            self.assertEqual(sum(dict(places_read(world)).values()), 1 if keep >= len(text) else 0)

    def test_torn_ends_are_cut_away_first(self):
        both = Both(self).do(*FED).begun().do(("torn", ("hear", 1), 20)).running()
        whole = both.world["shelf"][:-20]
        self.assertEqual(whole, "")
        # It stays through all that puts nothing down and is not torn itself.
        stays = both.twin().do(("begin",), ("read", 0), ("fall",), ("stop",), ("workers", WORKERS), ("again",), ("torn", ("feed", "s", 0, MARK), 3)).world
        self.assertEqual(stays["shelf"], both.world["shelf"])
        for event in (("read", 0), ("begin",), ("move", 0), ("hear", 0), ("fall",), ("workers", OTHERS)):
            self.assertEqual(both.twin().do(("torn", event, 5)).world["shelf"], "")
        world = both.do(("begin",), ("hear", 0)).world
        self.assertEqual(world["shelf"], kept_text(2, 1, S, ((0, 0, 0), (2, 0, 0)), 0))
        both.do(("torn", ("hear", 0), 7))
        self.assertEqual(both.world["shelf"], world["shelf"] + kept_text(2, 1, ELSE, ((1, 0, 0),), 0)[:7])


class Complete(unittest.TestCase):
    def test_cuts_and_the_shelf(self):
        both = Both(self).do(*FED).stopped().do(("fall",)).running().do(("read", 0)).nearly()
        before, last = both.world["shelf"], both.world["air"]
        self.assertEqual({told[:2] for told in kept_on(before)}, {(1, 1), (2, 1)})
        world = both.do(("hear", 0)).world
        places = ((("s", 0), 1), (("s", 1), 0), (("s", 2), 0), (("z", 0), 0))
        self.assertEqual((world["cuts"], world["shelf"]), (((1, places),), cleared(before, 2, 1)))
        self.assertEqual({told[:2] for told in kept_on(world["shelf"])}, {(2, 1)})
        self.assertEqual(tasks_on(world["shelf"], 2, 1), tuple(sorted(tasks_of(graph(QUERY, dict(WORKERS))))))
        self.assertEqual((world["control"]["last"], world["control"]["last_epoch"], len(last)), (1, 2, 1))
        world = both.hear_all().do(("read", 0)).idle().do(("read", 0), ("read", 0)).complete().world
        further = ((("s", 0), 3), (("s", 1), 0), (("s", 2), 1), (("z", 0), 0))
        self.assertEqual(world["cuts"], ((1, places), (2, further)))
        self.assertEqual({told[:2] for told in kept_on(world["shelf"])}, {(2, 2)})

    def test_with_other_workers(self):
        both = Both(self).do(*FED).running().do(("read", 0)).complete().do(("workers", OTHERS)).hear_all().idle()
        both.do(("read", 1)).complete()
        self.assertEqual([n for n, _ in both.world["cuts"]], [1, 2])
        self.assertEqual(sum(place for _, place in both.world["cuts"][1][1]), 2)
        self.assertEqual(set(dict(both.world["cuts"][1][1])), set(both.world["logs"]))


class Shown(unittest.TestCase):
    """13.3, 13.6, 13.7."""

    TOLD, MORE = (9, 1, ("a", 0, 10, 1)), (19, 1, ("a", 10, 20, 1))

    def fed(self, *more):
        return played(new_world(QUERY, PARTS, WORKERS, 2), FED + list(more))

    def test_input_and_places(self):
        world = self.fed()
        self.assertEqual(looked_at(self, input_of, world), {"s": ((ROW, MARK, LATE), (MARK,), (MARK,)), "z": ((FED[-1][3],),)})
        self.assertEqual(looked_at(self, places_read, world), ((("s", 0), 0), (("s", 1), 0), (("s", 2), 0), (("z", 0), 0)))
        self.assertEqual(places_read(calm(world)[0]), ((("s", 0), 3), (("s", 1), 1), (("s", 2), 1), (("z", 0), 1)))
        self.assertEqual([entries_of(log) for log in world["logs"].values()], [(ROW, MARK, LATE), (MARK,), (MARK,), (FED[-1][3],)])

    def test_told_and_late(self):
        world = self.fed()
        self.assertEqual((looked_at(self, told_outside, world), looked_at(self, late_outside, world, "s")), ({}, {}))
        world = calm(world)[0]
        self.assertEqual((looked_at(self, told_outside, world), looked_at(self, late_outside, world, "s"), late_outside(world, "z")), ({self.TOLD: 1}, {LATE[1:]: 1}, {}))

    def test_why(self):
        world = self.fed()
        self.assertEqual(looked_at(self, why, world, self.TOLD), [])
        settled = calm(world)[0]
        self.assertEqual(looked_at(self, why, settled, self.TOLD), [(("s", 0, 0),)])
        for row in (self.MORE, LATE[1:], (9, -1, ("a", 0, 10, 1)), (0, 1, ()), (9, 1, ("a", 0, 10, 2))):
            self.assertEqual(why(settled, row), [])
        # What is fed behind the last number is no reason, and what comes of it is not told yet.
        more = played(settled, [("feed", "s", 0, ("row", 12, 1, ("a", 1)))] + [("feed", "s", part, ("mark", 20)) for part in range(3)])
        self.assertEqual((why(more, self.TOLD), why(more, self.MORE)), ([(("s", 0, 0),)], []))
        more = calm(more)[0]
        self.assertEqual((why(more, self.TOLD), why(more, self.MORE)), ([(("s", 0, 0),)], [(("s", 0, 3),)]))

    def test_unsettled(self):
        world = self.fed()
        self.assertEqual(looked_at(self, unsettled, world), {self.TOLD: 1})
        settled = calm(world)[0]
        self.assertEqual(unsettled(settled), {})
        more = played(settled, [("feed", "s", 0, ("row", 12, 1, ("a", 1)))] + [("feed", "s", part, ("mark", 19)) for part in range(3)])
        self.assertEqual(unsettled(more), {})
        more = played(more, [("feed", "s", part, ("mark", 20)) for part in range(3)])
        self.assertEqual((unsettled(more), unsettled(calm(more)[0])), ({self.MORE: 1}, {}))

    def test_unsettled_counts_how_often(self):
        plain = read_query("s: source n number\nb: both s s\nout b")
        row = (3, 1, (5,))
        world = calm(played(new_world(plain, {"s": 1}, (("b", 1), ("out", 1), ("s", 1)), 1), [("feed", "s", 0, ("row",) + row)]))[0]
        self.assertEqual((told_outside(world), why(world, row)), ({row: 2}, [(("s", 0, 0),)] * 2))
        world = played(world, [("feed", "s", 0, ("row",) + row)])
        self.assertEqual((unsettled(world), why(world, row)), ({row: 2}, [(("s", 0, 0),)] * 2))

    def test_judge_world(self):
        world = calm(self.fed())[0]
        self.assertIsNone(looked_at(self, judge_world, world))
        epoch, holds, commits = world["outside"]
        n = commits[-1][0]
        self.assertEqual(n, world["cuts"][-1][0])

        def judged(outside):
            return judge_world({**world, "outside": outside})

        def told(out, late, more=()):
            return judged((epoch, (), ((n, tuple(sorted(((OUT, out), (S, late)) + tuple(more)))),)))

        self.assertIsNone(told((self.TOLD,), (LATE[1:],)))
        self.assertIsNone(judged(fresh_outside()))
        self.assertIsNone(judged((7, ((1, 1, OUT, (self.TOLD,)),), ())))
        self.assertEqual(told((), (LATE[1:],)), ("out", self.TOLD, 0, 1))
        self.assertEqual(told((self.TOLD,) * 3, (LATE[1:],)), ("out", self.TOLD, 3, 1))
        self.assertEqual(told((self.TOLD, (3, -1, ()), (4, 1, ())), (LATE[1:],)), ("out", (3, -1, ()), 1, 0))
        self.assertEqual(told((self.TOLD,), ()), ("late", "s"))
        self.assertEqual(told((), (LATE[1:],) * 2), ("late", "s"))
        self.assertEqual(told((), (LATE[1:],), [(Z, ((1, 1, (None,)),))]), ("late", "z"))
        self.assertEqual(told((), (), [(Z, ((1, 1, (None,)),))]), ("late", "s"))

    def test_judged_at_each_number(self):
        """An outside of an elder number is judged by the places of that one."""
        world, seen = self.fed(), []
        for part in range(3):
            world = calm(played(world, [("feed", "s", 0, ("row", 12 + part, 1, ("a", 1)))] + [("feed", "s", part, ("mark", 20)) for part in range(3)]))[0]
        self.assertGreater(len(world["cuts"]), 2)
        epoch, holds, commits = world["outside"]
        for many in range(len(commits) + 1):
            elder = {**world, "outside": (epoch, holds, commits[:many])}
            self.assertIsNone(judge_world(elder))
            seen.append((sum(told_outside(elder).values()), sum(late_outside(elder, "s").values())))
        self.assertEqual(seen, sorted(seen))
        self.assertGreater(len(set(seen)), 2)

    def test_plans_with_gathers(self):
        plan = planned(read_query("s: source k text\nt: sum s by k in even 10 with c = count 1\nout t"))[0]
        self.assertEqual([step[0] for _, step in plan[:-1]], ["source", "gather", "finish"])
        feeds = [("feed", "s", part, ("row", 3, 1, ("x",))) for part in range(3)] + [("feed", "s", part, ("mark", 10)) for part in range(3)]
        world = played(new_world(plan, {"s": 3}, tuple(sorted((name, 3) for name, _ in plan)), 1), feeds)
        row = (9, 1, ("x", 0, 10, 3))
        self.assertEqual(unsettled(world), {row: 1})
        world = calm(world)[0]
        self.assertEqual((told_outside(world), why(world, row), judge_world(world)), ({row: 1}, [(("s", 0, 0), ("s", 1, 0), ("s", 2, 0))], None))


class Calm(unittest.TestCase):
    def test_each_step(self):
        for script in ([], FED, FED + [("read", 0), ("begin",), ("hear", 0)], FED + [("hear", 0), ("hear", 0), ("begin",), ("lose", 1), ("read", 0), ("hear", 0), ("lose", 0)], FED + [("fall",), ("stop",), ("torn", FED[0], 4)],
                       FED + [("hear", 0), ("hear", 0), ("begin",), ("workers", tuple((name, 1) for name, _ in WORKERS))]):
            world = played(new_world(QUERY, PARTS, WORKERS, 1), script)
            end, many = left_alone(self, calm, world)
            words = collections.Counter()
            for _ in range(many):
                event = calm_event(world)
                words[event[0]] += 1
                world = after(world, event)
            self.assertIsNone(calm_event(world))
            self.assertEqual(world, end)
            self.assertGreater(words["hear"], 0)

    def test_the_first_each_time(self):
        """Rows that could come in any order to one sink: there it stands, in which order they came."""
        plain = read_query("a: source n number\nb: source n number\nc: both a b\nout c")
        feeds = [("feed", name, part, ("row", 3, 1, (number,))) for number, (name, part) in enumerate([("b", 0), ("a", 1), ("b", 1), ("a", 0)] * 3)]
        for room in (1, 3):
            for workers in ((("a", 1), ("b", 1), ("c", 1), ("out", 1)), (("a", 2), ("b", 2), ("c", 1), ("out", 1)), (("a", 2), ("b", 2), ("c", 2), ("out", 1))):
                world = played(new_world(plain, {"a": 2, "b": 2}, workers, room), feeds)
                end, many = calm(world)
                for _ in range(many):
                    world = after(world, calm_event(world))
                self.assertEqual(world, end)
                self.assertEqual(len(end["outside"][2][-1][1][-1][1]), 12)

    def test_each_step_of_drawn_worlds(self):
        draw = a_draw(595)
        for _ in range(60):
            _, plan, fed = a_case(draw)
            world, feeds = a_world(draw, plan, fed, 4), all_feeds(draw, fed)
            for _ in range(draw.randint(0, 60)):
                world = after(world, an_event(draw, world, feeds, 5))
            world = played(world, feeds)
            end, steps = calm(world), 0
            while calm_event(world) is not None:
                world, steps = after(world, calm_event(world)), steps + 1
            self.assertEqual((world, steps), end)

    def test_letters_that_would_only_go_back_are_passed_over(self):
        both = Both(self).do(*FED).begun().do(("read", 0))
        self.assertEqual(calm_event(both.world), ("hear", 1))
        self.assertIsNone(judge_world(calm(both.world)[0]))

    def test_lost_letters_are_sent_again(self):
        for both in (Both(self).do(*FED), Both(self).do(*FED).begun(), Both(self).do(*FED).stopped(), Both(self).do(*FED).complete(), Both(self).do(*FED).complete().do(("hear", 0))):
            both.do(*[("lose", 0)] * 30)
            self.assertEqual(both.world["air"], ())
            world = calm(both.world)[0]
            self.assertEqual((told_outside(world), unsettled(world), world["control"]["phase"], world["air"]), ({(9, 1, ("a", 0, 10, 1)): 1}, {}, "run", ()))

    def test_calm_twice_and_without_parts(self):
        world, many = calm(played(new_world(QUERY, PARTS, WORKERS, 1), FED))
        self.assertGreater(many, 20)
        self.assertEqual(calm(world), (world, 0))
        world, many = calm(new_world(QUERY, {"s": 0, "z": 0}, WORKERS, 1))
        self.assertEqual((world["cuts"], calm(world)[1]), (((1, ()),), 0))

    def test_a_number_that_was_going_on(self):
        """One more number is enough behind the last entry, or two, if one was going on."""
        both = Both(self).do(*FED).running()
        while sum(place for _, place in places_read(both.world)) < 6:
            both.do(("read", 0)).idle()
        self.assertEqual(calm(both.world)[0]["control"]["last"], 1)
        self.assertEqual(calm(both.do(("begin",)).world)[0]["control"]["last"], 1)
        both = Both(self).do(*FED).stopped()
        self.assertEqual(calm(both.world)[0]["control"]["last"], 2)


if __name__ == "__main__":
    unittest.main()
