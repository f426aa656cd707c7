import collections
import copy
import unittest

from oncestream.errors import BadScript, NothingDone
from oncestream.graphs import inputs_of, tasks_of
from oncestream.house import House
from oncestream.meaning import meaning
from oncestream.queries import sources_of
from oncestream.texts import read_query
from oncestream.values import ranks
from oncestream.world import (after, calm, input_of, is_event, judge_world, late_outside, new_world, places_read, told_outside,
                              unsettled, why)
from tests.makers import ANYTHING, a_draw, within
from tests.scripting import a_case, all_feeds, an_event, some_workers

QUERY = read_query("zoo: source who text, n number\nb: source who text, n number\nall: both zoo b\nt: sum all by who in even 10 with c = count 1\nout t")
WORKERS = (("all", 1), ("b", 1), ("out", 2), ("t", 2), ("zoo", 2))
PARTS = {"zoo": 2, "b": 1}
FED = [("feed", "b", 0, ("row", 3, 1, ("x", 5))), ("feed", "b", 0, ("mark", 30)), ("feed", "zoo", 0, ("row", 3, 1, (None, 5))), ("feed", "zoo", 1, ("row", 14, 1, ("a", 5))), ("feed", "zoo", 0, ("mark", 40)),
       ("feed", "zoo", 1, ("mark", 20)), ("feed", "zoo", 0, ("row", 2, -1, ("q", None))), ("feed", "b", 0, ("row", 1, 1, ("q", 1))), ("feed", "b", 0, ("row", 1, -1, ("z", 1))), ("feed", "b", 0, ("row", 1, 1, ("q", 1)))]
ROWS = [(9, 1, (None, 0, 10, 1)), (9, 1, ("x", 0, 10, 1)), (19, 1, ("a", 10, 20, 1))]


def a_house():
    return House(QUERY, PARTS, WORKERS, 2)


def stands(house):
    """All that a house shows."""
    return (house.world(), house.deeds(), house.outside(), house.due(), house.late(), house.tasks(), house.stand(), house.judge())


class Deeds(unittest.TestCase):
    def test_fresh(self):
        house = a_house()
        self.assertEqual((house.world(), house.deeds()), (new_world(QUERY, PARTS, WORKERS, 2), []))
        self.assertEqual((house.outside(), house.due(), house.late(), house.stand(), house.judge()), ([], [], [], (1, 0, "drop", 1, 0), None))

    def test_do(self):
        house, world = a_house(), new_world(QUERY, PARTS, WORKERS, 2)
        for many, deed in enumerate(FED + [("calm",), ("fall",), ("calm",), ("torn", ("hear", 3), 7)], 1):
            world = calm(world)[0] if deed == ("calm",) else after(world, deed)
            self.assertEqual(house.do(deed), many)
            self.assertEqual((house.world(), house.deeds()[-1], len(house.deeds())), (world, deed, many))

    def test_what_is_refused_changes_nothing(self):
        house = a_house()
        house.do(FED[0])
        house.do(("calm",))
        house.do(("fall",))
        house.undo()
        before = stands(house)
        for deed in ANYTHING + (within(30), ("calm", 0), ["calm"], "calm", ("calm",) * 2, ("undo",), ("feed", "b", 1, ("mark", 3)), ("read", True), ("torn", ("calm",), 0), ("torn", ("stop",), 0), ["fall"], (("fall",),)):
            with self.assertRaises(BadScript) as caught:
                house.do(deed)
            self.assertEqual(caught.exception.number, 0)
        self.assertEqual(stands(house), before)
        self.assertEqual((house.redo(), house.deeds()), (3, [FED[0], ("calm",), ("fall",)]))

    def test_undo_and_redo_at_both_ends(self):
        house = a_house()
        for _ in range(2):
            for act in (house.undo, house.redo):
                with self.assertRaises(NothingDone):
                    act()
        looks = [stands(house)]
        for deed in FED[:3] + [("calm",)]:
            house.do(deed)
            looks.append(stands(house))
        for _ in range(2):
            with self.assertRaises(NothingDone):
                house.redo()
            for many in (3, 2, 1, 0):
                self.assertEqual((house.undo(), stands(house)), (many, looks[many]))
            with self.assertRaises(NothingDone):
                house.undo()
            self.assertEqual(stands(house), looks[0])
            for many in (1, 2, 3, 4):
                self.assertEqual((house.redo(), stands(house)), (many, looks[many]))

    def test_a_deed_ends_what_could_be_done_again(self):
        house = a_house()
        for deed in FED[:4]:
            house.do(deed)
        house.undo()
        house.undo()
        self.assertEqual(house.do(("fall",)), 3)
        self.assertEqual(house.deeds(), FED[:2] + [("fall",)])
        with self.assertRaises(NothingDone):
            house.redo()
        self.assertEqual((house.undo(), house.redo(), house.undo(), house.undo(), house.undo()), (2, 3, 2, 1, 0))

    def test_an_equal_deed_ends_it_too(self):
        house = a_house()
        house.do(FED[0])
        house.do(FED[1])
        house.undo()
        self.assertEqual(house.do(FED[1]), 2)
        with self.assertRaises(NothingDone):
            house.redo()

    def test_twins_go_their_own_ways(self):
        house = a_house()
        for deed in FED[:4]:
            house.do(deed)
        house.undo()
        house.undo()
        twin = house.twin()
        self.assertIsInstance(twin, House)
        self.assertEqual(stands(twin), stands(house))
        before = stands(house)
        self.assertEqual((twin.redo(), twin.redo(), twin.deeds()), (3, 4, FED[:4]))
        self.assertEqual(stands(house), before)
        twin.undo()
        twin.do(("calm",))
        self.assertEqual((house.redo(), house.redo(), house.deeds()), (3, 4, FED[:4]))
        self.assertEqual(twin.deeds(), FED[:3] + [("calm",)])
        for _ in range(4):
            house.undo()
        self.assertEqual((house.deeds(), len(twin.deeds()), twin.undo(), twin.redo()), ([], 4, 3, 4))
        other = twin.twin()
        other.do(("stop",))
        self.assertEqual((len(other.deeds()), len(twin.deeds())), (5, 4))

    def test_worlds_that_were_told_stay(self):
        """A house goes on from the world that it has told: that one is not changed, nor are those of twins."""
        draw = a_draw(582)
        for _ in range(15):
            query, _, fed = a_case(draw)
            house, told, feeds = House(query, {name: len(fed[name]) for name in fed}, some_workers(draw, query), draw.choice((1, 2, 5))), [], all_feeds(draw, fed)
            for _ in range(60):
                chance = draw.random()
                if chance < 0.1 and house.deeds():
                    house.undo()
                elif chance < 0.15:
                    house = house.twin()
                else:
                    house.do(feeds.pop(0) if feeds and chance < 0.5 else ("calm",) if chance > 0.97 else an_event(draw, house.world(), feeds, 30))
                told.append((house.world(), copy.deepcopy(house.world())))
                house.judge(), house.due()
            for one, other in told:
                self.assertEqual(repr(one), repr(other))

    def test_nothing_is_shared_with_those_who_call(self):
        parts = dict(PARTS)
        house = House(QUERY, parts, WORKERS, 2)
        parts["zoo"], parts["x"] = 7, 1
        twin = house.twin()
        for which in (house, twin):
            self.assertEqual(which.world(), new_world(QUERY, PARTS, WORKERS, 2))
        for deed in FED:
            house.do(deed)
        house.do(("calm",))
        before = stands(house)
        for show in (house.deeds, house.outside, house.due, house.late, house.tasks):
            show().append("spoiled")
            show().clear()
        house.why(ROWS[0]).append("spoiled")
        house.deeds()[0] = ("fall",)
        self.assertEqual((stands(house), parts), (before, {"zoo": 7, "b": 1, "x": 1}))


class Shown(unittest.TestCase):
    def test_outside_due_and_late(self):
        house = a_house()
        for deed in FED:
            house.do(deed)
        self.assertEqual((house.outside(), house.due(), house.late()), ([], [(row, 1) for row in ROWS], []))
        house.do(("calm",))
        late = [(("b", (1, -1, ("z", 1))), 1), (("b", (1, 1, ("q", 1))), 2), (("zoo", (2, -1, ("q", None))), 1)]
        self.assertEqual((house.outside(), house.due(), house.late()), ([(row, 1) for row in ROWS], [], late))
        self.assertEqual(house.why(ROWS[1]), [(("b", 0, 0),)])
        self.assertEqual((house.why(ROWS[0]), house.why((9, 1, ("x", 0, 10, 2))), house.why((0, 1, ()))), ([(("zoo", 0, 0),)], [], []))
        house.undo()
        self.assertEqual((house.outside(), house.why(ROWS[0])), ([], []))

    def test_tasks(self):
        house = a_house()
        tasks = [("zoo", 0), ("zoo", 1), ("b", 0), ("all", 0), ("t", 0), ("t", 1), ("out", 0), ("out", 1)]
        waits = [1, 1, 1, 2, 2, 2, 0, 0]
        self.assertEqual(house.tasks(), [task + (0, many, 0) for task, many in zip(tasks, waits)])
        house.do(("move", 0))
        house.do(("move", 0))
        told = dict(((name, number), rest) for name, number, *rest in house.tasks())
        self.assertEqual(told[("all", 0)], [0, 0, 0])
        self.assertEqual((told[("t", 0)], told[("t", 1)]), ([0, 2, 1], [0, 2, 1]))

    def test_stand(self):
        house, looks = a_house(), []
        for deed in FED + [("hear", 0), ("hear", 0), ("read", 0), ("begin",), ("fall",), ("calm",)]:
            house.do(deed)
            world = house.world()
            control = world["control"]
            self.assertEqual(house.stand(), (control["epoch"], control["last"], control["phase"], len(world["air"]), sum(place for _, place in places_read(world))))
            looks.append(house.stand())
        self.assertEqual(looks[-6:-1], [(1, 0, "drop", 1, 0), (1, 0, "run", 0, 0), (1, 0, "run", 0, 0), (1, 0, "barrier", 3, 0), (2, 0, "drop", 4, 0)])
        self.assertEqual((looks[-1][2:], looks[-1][0]), (("run", 0, 10), 2))

    def test_all_is_told_as_the_world_tells_it(self):
        draw, seen = a_draw(581), collections.Counter()
        for _ in range(30):
            query, _, fed = a_case(draw)
            house = House(query, {name: len(fed[name]) for name in fed}, some_workers(draw, query), draw.choice((1, 2, 5)))
            worlds, deeds, at, feeds = [house.world()], [], 0, all_feeds(draw, fed)
            for _ in range(70):
                chance = draw.random()
                if chance < 0.15 and at > 0:
                    at -= 1
                    self.assertEqual(house.undo(), at)
                elif chance < 0.25 and at < len(deeds):
                    at += 1
                    self.assertEqual(house.redo(), at)
                elif chance < 0.3:
                    other = house.twin()
                    self.assertEqual((other.world(), other.deeds()), (worlds[at], deeds[:at]))
                    house, seen["twin"] = other, seen["twin"] + 1
                else:
                    deed = feeds.pop(0) if feeds and draw.random() < 0.3 else ("calm",) if draw.random() < 0.08 else an_event(draw, worlds[at], feeds, 30)
                    self.assertTrue(deed == ("calm",) or is_event(worlds[at], deed))
                    worlds, deeds = worlds[:at + 1], deeds[:at] + [deed]
                    worlds.append(calm(worlds[-1])[0] if deed == ("calm",) else after(worlds[-1], deed))
                    at += 1
                    self.assertEqual(house.do(deed), at)
                self.check(house, worlds[at], deeds[:at], seen)
            house.do(("calm",))
            self.check(house, house.world(), house.deeds(), seen)
            self.assertEqual((house.due(), dict(house.outside())), ([], meaning(query, input_of(house.world()))))
        self.assertGreater(min(seen[word] for word in ("outside", "late", "due", "twin")), 50, seen)

    def check(self, house, world, deeds, seen):
        self.assertEqual((house.world(), house.deeds()), (world, deeds))
        for told, bag in ((house.outside(), told_outside(world)), (house.due(), unsettled(world))):
            self.assertEqual(dict(told), bag)
            order = [(row[0], row[1], ranks(row[2])) for row, _ in told]
            self.assertEqual(order, sorted(set(order)))
        late = [((name, row), many) for name in sorted(sources_of(world["plan"])) for row, many in sorted(late_outside(world, name).items(), key=lambda pair: (pair[0][:2], ranks(pair[0][2])))]
        self.assertEqual(house.late(), late)
        net = world["net"]
        tasks = [task + (net["tasks"][task]["mark"], len(net["tasks"][task]["outbox"]), sum(len(net["channels"][channel]) for channel in inputs_of(net["graph"], task))) for task in tasks_of(net["graph"])]
        self.assertEqual(house.tasks(), tasks)
        for row, _ in house.outside()[:3] + house.due()[:3]:
            self.assertEqual(house.why(row), why(world, row))
        self.assertIsNone(house.judge())
        self.assertIsNone(judge_world(world))
        seen.update(outside=len(house.outside()) > 0, late=len(late) > 0, due=len(house.due()) > 0)


if __name__ == "__main__":
    unittest.main()
