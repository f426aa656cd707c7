"""Worlds in which all kinds of things happen, drawn by chance, held against the meaning and against a second telling."""

import collections
import unittest

from oncestream.meaning import all_late, cut, is_further, places_of
from oncestream.outside import last_of
from oncestream.queries import sources_of
from oncestream.world import (after, calm, input_of, is_event, judge_world, late_outside, places_read, played, told_outside,
                              unsettled)
from tests import plainly
from tests.makers import a_draw
from tests.plainworld import PlainWorld
from tests.scripting import a_case, a_world, all_feeds, an_event
from tests.untouched import left_alone


class Worlds(unittest.TestCase):
    def runs(self, seed, times, length, bad, **sizes):
        draw = a_draw(seed)
        for _ in range(times):
            query, plan, fed = a_case(draw, **sizes)
            yield draw, query, plan, a_world(draw, plan, fed), all_feeds(draw, fed), length, bad

    def test_the_second_telling(self):
        words, completes = collections.Counter(), 0
        for draw, _, plan, world, feeds, length, bad in self.runs(551, 50, 350, 14, steps=3, most=4):
            parts = {name: len([part for part in world["logs"] if part[0] == name]) for name in sources_of(plan)}
            plain = PlainWorld(plan, parts, world["workers"], world["credits"])
            self.assertEqual(world, plain.world())
            for _ in range(length):
                event = an_event(draw, world, feeds, bad)
                self.assertIs(is_event(world, event), True)
                world = after(world, event)
                plain.after(event)
                self.assertEqual(world, plain.world(), event)
                words[event[0] if event[0] != "torn" else "torn " + event[1][0]] += 1
            completes += len(world["cuts"])
        self.assertEqual(len(words), 18)
        self.assertGreater(completes, 40)

    def check_told(self, query, plan, world):
        """13.4, by the meaning told once more."""
        n, fed = last_of(world["outside"]), input_of(world)
        places = dict(dict(world["cuts"]).get(n, ((part, 0) for part in world["logs"])))
        self.assertEqual(set(places), set(world["logs"]))
        here = cut({name: fed[name] for name in sources_of(query)}, places)
        self.assertEqual(told_outside(world), plainly.bag(query, here))
        self.assertIsNone(judge_world(world))
        late = collections.Counter((name, here[name][part][place][1:]) for name, part, place in all_late(here))
        told = collections.Counter({(name, row): many for name in sources_of(plan) for row, many in late_outside(world, name).items()})
        self.assertEqual(told, late)
        for (one, ahead), (other, behind) in zip(world["cuts"], world["cuts"][1:]):
            self.assertEqual(other, one + 1)
            self.assertIs(is_further(dict(ahead), dict(behind)), True)

    def test_each_row_is_counted_once(self):
        told, late, numbers = 0, 0, collections.Counter()
        for draw, query, plan, world, feeds, length, bad in self.runs(552, 70, 500, 6, steps=4):
            for _ in range(draw.randint(0, len(feeds))):
                world = after(world, feeds.pop(0))
            for _ in range(length):
                elder = world
                world = after(world, an_event(draw, world, feeds, bad)) if draw.random() < 0.99 else calm(world)[0]
                if world["outside"] != elder["outside"] or draw.random() < 0.02:
                    self.check_told(query, plan, world)
            told += sum(told_outside(world).values())
            late += sum(sum(late_outside(world, name).values()) for name in sources_of(plan))
            numbers[last_of(world["outside"])] += 1
        self.assertGreater(min(told, late), 60)
        self.assertGreater(sum(numbers[n] for n in numbers if n > 2), 20)

    def test_a_calm_run_comes_to_the_whole_input(self):
        for draw, query, plan, world, feeds, length, bad in self.runs(553, 60, 120, 30):
            script, events = [], draw.randint(0, length)
            for _ in range(events):
                event = an_event(draw, world, feeds, bad)
                script.append(event)
                world = after(world, event)
            calmed, many = left_alone(self, calm, world)
            fed = input_of(calmed)
            self.assertEqual(fed, input_of(world))
            self.check_told(query, plan, calmed)
            self.assertEqual(told_outside(calmed), plainly.bag(query, {name: fed[name] for name in sources_of(query)}))
            self.assertEqual(dict(places_read(calmed)), places_of(fed))
            self.assertEqual((unsettled(calmed), calmed["control"]["phase"]), ({}, "run"))
            self.assertEqual(calm(calmed), (calmed, 0))
            self.assertGreater(many, 0)
            self.assertEqual(last_of(calmed["outside"]), calmed["control"]["last"])

    def test_played_at_once(self):
        for draw, _, _, world, feeds, length, bad in self.runs(554, 10, 150, 40):
            script, behind = [], world
            for _ in range(length):
                event = an_event(draw, behind, feeds, bad)
                script.append(event)
                behind = after(behind, event)
            self.assertEqual(left_alone(self, played, world, script), behind)
            self.assertEqual(played(world, tuple(script)), behind)
            self.assertEqual(played(behind, []), behind)

    def test_the_same_input_comes_to_the_same(self):
        """Whatever happens, whatever workers there are, and however the query is planned."""
        draw = a_draw(555)
        for _ in range(15):
            query, plan, fed = a_case(draw)
            ends = []
            for which in (query, plan, plan):
                world, feeds = a_world(draw, which, fed, most=4), all_feeds(draw, fed)
                for _ in range(draw.randint(0, 150)):
                    world = after(world, an_event(draw, world, feeds, 30))
                fed_now = {name: tuple(tuple(part) for part in parts) for name, parts in input_of(world).items()}
                left = [("feed", name, number, entry) for name in fed for number, part in enumerate(fed[name]) for entry in part[len(fed_now[name][number]):]]
                is_beginning = all(fed_now[name][number] == part[:len(fed_now[name][number])] for name in fed for number, part in enumerate(fed[name]))
                # An entry of which a torn writing kept but some signs was never there: then the input is another one.
                if is_beginning:
                    ends.append(calm(played(world, left))[0])
            for end in ends:
                self.assertEqual(told_outside(end), plainly.bag(query, fed))


if __name__ == "__main__":
    unittest.main()
