"""The work of one event does not grow with what lies on the disk, on the shelf or in the logs.

Work is told by how many functions are called, those of Python itself among them: so it is the same on each machine.
"""

import sys
import unittest

from oncestream.control import played as played_by_control
from oncestream.desk import Desk
from oncestream.house import House
from oncestream.scripts import event_text
from oncestream.world import after, calm, judge_world, new_world, played
from tests.answers import ALONE, ALONE_WORKERS, FEEDS, FOUR, FOUR_PARTS, SMALL, SMALL_WORKERS, any_event
from tests.makers import a_draw
from tests.scripting import a_part, all_feeds, some_workers

OTHER_WORKERS = (("a", 1), ("b", 3), ("out", 1))


def work(function, *arguments):
    """How many calls one call takes, and what it returns."""
    calls = [0]

    def count(frame, event, argument):
        calls[0] += event in ("call", "c_call")

    sys.setprofile(count)
    try:
        told = function(*arguments)
    finally:
        sys.setprofile(None)
    return calls[0], told


def small_world():
    return new_world(SMALL, {"a": 2}, SMALL_WORKERS, 2)


class Growth(unittest.TestCase):
    def check(self, least, most, function, events):
        """That many events take not much more than as many times what a third of them takes, and not too much at all."""
        few, many = work(function, events[:len(events) // 3])[0], work(function, events)[0]
        self.assertLess(many, 3.3 * few)
        self.assertLess(least, many / len(events))
        self.assertLess(many / len(events), most)

    def test_happenings(self):
        for happening in (("renew", ALONE_WORKERS), ("stop",), ("torn", ("renew", ALONE_WORKERS), 20), ("torn", ("renew", ALONE_WORKERS), 10 ** 6), ("torn", ("begin",), 0)):
            self.check(50, 320, lambda happenings: played_by_control(ALONE, ALONE_WORKERS, happenings), [happening] * 180)
        self.check(1, 10, lambda happenings: played_by_control(ALONE, ALONE_WORKERS, happenings), [("again",)] * 180)
        letters = [("hear", (word, 1, 1, ("a", number))) for word in ("kept", "held") for number in (0, 1)] * 45
        self.check(1, 50, lambda happenings: played_by_control(ALONE, ALONE_WORKERS, [("hear", ("dropped", 1)), ("begin",)] + happenings), letters)

    def test_falls(self):
        for event in (("fall",), ("stop",), ("torn", ("fall",), 9), ("torn", ("fall",), 10 ** 6), ("torn", ("read", 0), 0)):
            self.check(50, 430, lambda events: played(small_world(), events), [event] * 300)
        self.check(50, 280, lambda events: played(small_world(), events), [("workers", OTHER_WORKERS), ("workers", SMALL_WORKERS)] * 150)

    def test_feeds(self):
        self.check(20, 160, lambda events: played(small_world(), events), FEEDS)

    def test_a_calm_run(self):
        worlds = [played(small_world(), FEEDS[:many]) for many in (20, 60)]
        few, many = [work(calm, world) for world in worlds]
        self.assertLess(many[0], 3.3 * few[0])
        self.assertLess(many[0] / many[1][1], 82)

    def test_a_calm_run_behind_many_falls(self):
        worlds = [played(small_world(), FEEDS[:20] + [("fall",), ("again",)] * many) for many in (40, 120)]
        few, many = [work(calm, world) for world in worlds]
        self.assertLess(many[0] / many[1][1], 1.1 * few[0] / few[1][1])

    def test_a_house_and_a_desk(self):
        def done(events):
            house = House(SMALL, {"a": 2}, SMALL_WORKERS, 2)
            for event in events:
                house.do(event)

        def said(events):
            desk = Desk(SMALL, {"a": 2}, SMALL_WORKERS, 2)
            for event in events:
                desk.say(event_text(event))

        def shown(events):
            house = House(SMALL, {"a": 2}, SMALL_WORKERS, 2)
            for event in FEEDS + [("calm",)] + events:
                house.do(event)
            for _ in events:
                house.judge()
                house.due()

        for most, function in ((300, done), (340, said), (750, shown)):
            self.check(50, most, function, [("fall",), ("stop",), ("torn", ("fall",), 5)] * 60)

    def test_each_event_of_a_world_that_has_seen_much(self):
        """One event, asked alone: no text is read again but by the lengths of its seals."""
        fresh, elder = small_world(), played(small_world(), [("fall",)] * 250)
        for event in (("fall",), ("stop",), ("begin",), ("again",), ("hear", 0), ("move", 0), ("torn", ("fall",), 5), ("workers", OTHER_WORKERS)):
            few, many = work(after, fresh, event)[0], work(after, elder, event)[0]
            self.assertLess(many, few + 30, event)

    def test_scripts_of_all_kinds(self):
        """Four sources, each event as likely as any other one; calm behind it, and judged."""
        draw = a_draw(1451)
        for _ in range(3):
            fed = {name: tuple(a_part(draw, dict(FOUR)[name][1], 10) for _ in range(FOUR_PARTS[name])) for name in FOUR_PARTS}
            world, feeds, script = new_world(FOUR, FOUR_PARTS, some_workers(draw, FOUR, 2), 2), all_feeds(draw, fed), []
            first = world
            for _ in range(300):
                script.append(any_event(draw, world, feeds, 0))
                world = after(world, script[-1])
            calls, behind = work(played, first, script)
            self.assertEqual(behind, world)
            self.assertLess(calls / len(script), 370)
            calls, (calmed, many) = work(calm, behind)
            self.assertLess(calls / many, 55)
            self.assertLess(work(judge_world, calmed)[0], 3000)


if __name__ == "__main__":
    unittest.main()
