"""The whole program: worlds run by texts, with queries written anew and planned, parts dealt anew, other workers."""

import collections
import unittest

from oncestream.bags import bag_of
from oncestream.checker import judge_history
from oncestream.desk import Desk
from oncestream.house import House
from oncestream.marks import END
from oncestream.meaning import all_late, marks_of, meaning
from oncestream.planner import canonical, judge_plan, look_alike, planned
from oncestream.queries import judge_query, need_query, sources_of
from oncestream.rewritings import applied, unplanned
from oncestream.scripts import event_text, read_row, read_script, script_text
from oncestream.texts import query_text, read_query
from oncestream.world import after, calm, input_of, judge_world, new_world, played, told_outside
from tests import plainly
from tests.makers import a_draw
from tests.scripting import a_case, a_part, a_world, all_feeds, an_event, some_workers

RULES = ("spare", "fold", "all", "split", "make", "keepmake", "keepboth", "makeboth", "keepsum", "keepkeys", "keepleft", "keepright", "drop", "narrow", "keepkeep", "same", "gather")


def anew(draw, plan, times):
    """The plan behind rules that are applied anywhere, and how many they were."""
    done = []
    for _ in range(times):
        found = [(rule, name) for rule in RULES for name, _ in plan[:-1] if applied(plan, rule, name) is not None]
        if not found:
            break
        done.append(draw.choice(found))
        plan = applied(plan, *done[-1])
    return plan, done


def whole_fed(fed):
    """The input with a mark at the end of each part behind which nothing comes."""
    return {name: tuple(part + (("mark", END),) for part in fed[name]) for name in fed}


def run(draw, plan, fed, length=80, bad=25):
    """The world behind much that happens, all of the input, and a calm run."""
    world, feeds = a_world(draw, plan, fed, most=4), all_feeds(draw, fed)
    for _ in range(length):
        event = an_event(draw, world, feeds, bad)
        if event[0] == "torn" and event[1][0] == "feed":
            # Whatever is torn, the entry is written behind it, whole, if it was not already.
            many = len(input_of(world)[event[1][1]][event[1][2]])
            world = after(world, event)
            if len(input_of(world)[event[1][1]][event[1][2]]) > many:
                continue
            event = event[1]
        world = after(world, event)
    return calm(played(world, feeds))[0]


class Texts(unittest.TestCase):
    def test_a_desk_that_is_run_by_texts(self):
        """A script is written, read, and said line by line; what is told is what the query's text means."""
        draw, told = a_draw(601), 0
        for _ in range(25):
            query, _, fed = a_case(draw)
            query = read_query(query_text(query))
            need_query(query)
            fed = whole_fed(fed)
            parts, workers, room = {name: len(fed[name]) for name in fed}, some_workers(draw, query, 4), draw.choice((1, 4))
            world, feeds, script = new_world(query, parts, workers, room), all_feeds(draw, fed), []
            for _ in range(60):
                script.append(an_event(draw, world, feeds, 20))
                world = after(world, script[-1])
            script, world = script + feeds, played(world, feeds)
            desk = Desk(query, parts, workers, room)
            for many, line in enumerate(script_text(script).split("\n"), 1):
                self.assertEqual(desk.say(line), str(many))
            self.assertEqual(desk.house().world(), world)
            self.assertEqual(played(new_world(query, parts, workers, room), read_script(script_text(script))), world)
            desk.say("calm")
            lines = [] if desk.say("outside") == "nothing" else desk.say("outside").split("\n")
            bag = {}
            for line in lines:
                many, row = line.split(" x ", 1)
                bag[read_row(row)] = int(many)
            self.assertEqual(bag, plainly.bag(query, input_of(desk.house().world())))
            self.assertEqual((desk.say("query"), desk.say("right"), desk.say("due")), (query_text(query), "yes", "nothing"))
            told += len(lines)
        self.assertGreater(told, 40)


class Plans(unittest.TestCase):
    def test_queries_written_anew(self):
        """4.7 and 13.4: whatever rules are applied, in whatever order, the same is told."""
        draw, used, told = a_draw(602), collections.Counter(), 0
        for _ in range(40):
            query, _, fed = a_case(draw)
            plan, done = anew(draw, query, draw.randint(1, 8))
            used.update(rule for rule, _ in done)
            self.assertIsNone(judge_plan(query, (plan, tuple(done))))
            fed = whole_fed(fed)
            if len(plan) > 17:
                continue
            world = run(draw, plan, fed)
            self.assertEqual(told_outside(world), plainly.bag(query, fed))
            self.assertEqual(meaning(unplanned(plan), fed), plainly.bag(query, fed))
            self.assertIsNone(judge_world(world))
            told += sum(told_outside(world).values())
        self.assertGreater(len(used), 9)
        self.assertGreater(told, 100)

    def test_queries_that_look_alike_tell_the_same(self):
        draw, alike = a_draw(603), 0
        for _ in range(40):
            query, _, fed = a_case(draw)
            other = canonical(query)
            self.assertIsNone(judge_query(other))
            self.assertIs(look_alike(query, other), True)
            ends = [run(draw, which, {name: fed[name] for name in sources_of(which)}, length=30) for which in (query, planned(query)[0], other, planned(other)[0])]
            bags = [told_outside(end) for end in ends]
            # A step of which nothing hangs on "out" is another one's lack: sources are left out with it.
            self.assertEqual(bags[1:], bags[:1] * 3)
            alike += len(bags[0]) > 0
        self.assertGreater(alike, 15)


class Parts(unittest.TestCase):
    def test_parts_dealt_anew(self):
        """3.6: entries dealt to other parts, with the same rows late and the same mark of the source: the same bag."""
        draw, told = a_draw(604), 0
        for _ in range(30):
            query, plan, fed = a_case(draw)
            one = {name: self.dealt(draw, [entry for part in fed[name] for entry in part if entry[0] == "row"], draw.randint(1, 3)) for name in fed}
            other = {name: self.dealt(draw, [entry for part in one[name] for entry in part if entry[0] == "row"], draw.randint(1, 4)) for name in fed}
            self.assertEqual((all_late(one), all_late(other)), ([], []))
            self.assertEqual(marks_of(query, one), marks_of(query, other))
            worlds = [run(draw, plan, one), run(draw, query, other)]
            self.assertEqual(told_outside(worlds[0]), told_outside(worlds[1]))
            self.assertEqual(told_outside(worlds[0]), plainly.bag(query, one))
            told += sum(told_outside(worlds[0]).values())
        self.assertGreater(told, 100)

    def dealt(self, draw, rows, many):
        """The rows in so many parts, in any order, each part with marks that make none of them late."""
        lots = [[] for _ in range(many)]
        for row in draw.sample(rows, len(rows)):
            draw.choice(lots).append(row)
        parts = []
        for lot in lots:
            place = draw.randint(0, len(lot))
            mark = min([row[1] for row in lot[place:]], default=50)
            parts.append(tuple(lot[:place]) + (("mark", mark),) + tuple(lot[place:]) + (("mark", 60),))
        return tuple(parts)


class Workers(unittest.TestCase):
    def test_workers_that_change_all_the_while(self):
        draw, told = a_draw(605), 0
        for _ in range(20):
            query, plan, fed = a_case(draw)
            world, feeds, numbers = a_world(draw, plan, fed, most=4), all_feeds(draw, fed), set()
            while feeds:
                world = after(world, feeds.pop(0))
                for _ in range(draw.randint(0, 25)):
                    world = after(world, an_event(draw, world, feeds[:0], 3))
                if draw.random() < 0.4:
                    world = after(world, ("workers", some_workers(draw, plan, 4)))
                if draw.random() < 0.3:
                    world = calm(world)[0]
                    numbers.add(world["workers"])
                self.assertIsNone(judge_world(world))
            world = calm(world)[0]
            self.assertEqual(told_outside(world), plainly.bag(query, {name: input_of(world)[name] for name in sources_of(query)}))
            told += sum(told_outside(world).values())
        self.assertGreater(told, 40)

    def test_one_more_input_by_input(self):
        """What is told grows with each calm run, and its history is right; then all that was told is what is due."""
        draw = a_draw(606)
        for _ in range(15):
            query, _, fed = a_case(draw)
            house, history, feeds = House(query, {name: len(fed[name]) for name in fed}, some_workers(draw, query), 2), [], all_feeds(draw, whole_fed(fed))
            while feeds:
                for event in [feeds.pop(0) for _ in range(min(len(feeds), 3))]:
                    house.do(event)
                house.do(("workers", some_workers(draw, query, 4)))
                house.do(("calm",))
                history.append((dict(house.world()["cuts"][-1][1]), dict(house.outside())))
            self.assertIsNone(judge_history(query, whole_fed(fed), history))
            self.assertEqual(dict(house.outside()), plainly.bag(query, whole_fed(fed)))


class Bounds(unittest.TestCase):
    """Sizes to which 13.8 goes."""

    def test_sixteen_steps_and_four_workers(self):
        draw = a_draw(607)
        text = ["a: source k text, n number", "b: source k text, n number", "c: both a b", "d: keep c where (0 < n)", "e: make d with k = k, n = (n + 1)", "f: sum e by k in sliding 10 2 with m = sum n", "g: sum e by k in even 10 with m = sum n",
                "h: both f g", "i: sum a by k in session 4 with m = greatest n", "j: both h i", "l: keep j where (m < 90)", "m: make l with k = k, n = m", "n: both m e", "o: join n a by k, n back 3 ahead 3", "p: both n o", "out p"]
        query = read_query("\n".join(text))
        need_query(query)
        fed = {name: tuple(a_part(draw, query[0][1][1], 12) + (("mark", END),) for _ in range(3)) for name in "ab"}
        for plan in (query, planned(query)[0]):
            if len(plan) > 17:
                continue
            world = run(draw, plan, fed, length=60, bad=30)
            self.assertEqual(told_outside(world), plainly.bag(query, fed))
            self.assertGreater(len(told_outside(world)), 20)

    def test_a_script_of_three_hundred_events_on_a_chain_of_keeps(self):
        draw = a_draw(608)
        query = (("a", ("source", (("n", "number"),))),) + tuple((chr(98 + at), ("keep", chr(97 + at), ("value", 1))) for at in range(15)) + (("out", "p"),)
        need_query(query)
        fed = {"a": tuple(a_part(draw, (("n", "number"),), 15) for _ in range(4))}
        world = run(draw, query, fed, length=300, bad=10)
        rows = [entry[1:] for number, part in enumerate(fed["a"]) for place, entry in enumerate(part) if entry[0] == "row" and ("a", number, place) not in all_late(fed)]
        self.assertEqual(told_outside(world), bag_of(rows))

    def test_numbers_far_beyond(self):
        query = read_query("a: source n number\nout a")
        world = new_world(query, {"a": 1}, (("a", 1), ("out", 1)), 20)
        script = [("feed", "a", 0, ("row", 10 ** 8, 1, (10 ** 59,))), ("read", 10 ** 399), ("move", 10 ** 399), ("hear", 10 ** 399), ("double", 10 ** 399), ("lose", 10 ** 399), ("torn", ("hear", 10 ** 399), 10 ** 399)]
        world = calm(played(world, script))[0]
        self.assertEqual(told_outside(world), {(10 ** 8, 1, (10 ** 59,)): 1})
        self.assertEqual([event_text(event) for event in script], [event_text(event) for event in read_script(script_text(script))])


if __name__ == "__main__":
    unittest.main()
