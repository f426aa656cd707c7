import collections
import unittest

from oncestream.desk import Desk
from oncestream.errors import BadText, NothingDone
from oncestream.house import House
from oncestream.scripts import event_text, read_event, row_text
from oncestream.texts import query_text
from oncestream.world import is_event
from tests.makers import ANYTHING, a_draw, within
from tests.scripting import a_case, all_feeds, an_event, some_workers
from tests.test_house import FED, PARTS, QUERY, WORKERS

LINES = [event_text(event) for event in FED]


def a_desk():
    return Desk(QUERY, PARTS, WORKERS, 2)


def text_of(lines):
    return "\n".join(lines) or "nothing"


class Said(unittest.TestCase):
    def test_the_house_is_the_same_at_each_call(self):
        desk = a_desk()
        house = desk.house()
        self.assertIsInstance(house, House)
        desk.say(LINES[0])
        desk.say("undo")
        self.assertIs(desk.house(), house)
        self.assertEqual(house.redo(), 1)
        self.assertEqual((desk.say("undo"), desk.say(LINES[1])), ("0", "1"))
        self.assertIs(desk.house(), house)
        self.assertIsNot(a_desk().house(), house)

    def test_events(self):
        desk = a_desk()
        for many, line in enumerate(LINES + ["read 0", "move 3", "begin", "again", "hear 0", "double 1", "lose 0", "fall", "stop", "workers all 1, b 1, out 2, t 4, zoo 1", "torn 5 hear 0", "torn 9 workers all 1, b 1, out 2, t 4, zoo 1"], 1):
            self.assertEqual(desk.say(line), str(many))
            self.assertEqual(desk.house().deeds()[-1], read_event(line))
        self.assertEqual(desk.say("calm"), str(many + 1))
        self.assertEqual(desk.house().deeds()[-1], ("calm",))

    def test_undo_and_redo(self):
        desk = a_desk()
        self.assertEqual([desk.say(line) for line in ("undo", "redo", LINES[0], "redo", "undo", "undo", "redo", "redo", "undo", LINES[1], "redo")],
                         ["refused", "refused", "1", "refused", "0", "refused", "1", "refused", "0", "1", "refused"])

    def test_what_is_no_line(self):
        desk = a_desk()
        desk.say(LINES[0])
        before = (desk.house().world(), desk.house().deeds())
        wrong = ["", " ", "calm ", " calm", "Calm", "calm\n", "undo 1", "redo\n", "outside ", "due\n", "late late", "tasks 0", "stand ", "right?", "query\n", "why", "why ", "why  3 + -", "why 3 + - ", "why 3 +", "why x", "why None",
                 "why\n3 + -", "whynot", "hear", "hear x", "hear 01", "torn 5 calm", "torn 5 stop", "begin\nbegin", "begin ", "nothing", "what", "refused", "house", "say", "judge", "twin", "world", "deeds"]
        # The text of an event, but of none of this world.
        wrong += ["feed b 1 mark 3", "feed c 0 mark 3", "feed b 0 row 3 + 5", 'feed b 0 row 3 + 5, "x"', "feed b 0 mark 1000000001", "workers -", "workers b 1", "workers all 1, b 1, out 2, t 5, zoo 1", "torn 3 feed b 1 mark 3",
                  "feed all 0 mark 3", "feed b 0 row 100000001 + (), ()"]
        for line in tuple(wrong) + ANYTHING + (within(30), 3, b"calm", ("calm",), ["calm"], {"calm": 1}):
            self.assertEqual(desk.say(line), "what", line)
        self.assertEqual((desk.house().world(), desk.house().deeds()), before)

    def test_shown(self):
        desk = a_desk()
        self.assertEqual([desk.say(line) for line in ("outside", "due", "late", "right", "why 3 + -", "stand")], ["nothing", "nothing", "nothing", "yes", "nothing", "epoch 1 last 0 drop letters 1 read 0"])
        self.assertEqual(desk.say("tasks").split("\n"), ["zoo 0 mark 0 waits 1 gone 0", "zoo 1 mark 0 waits 1 gone 0", "b 0 mark 0 waits 1 gone 0", "all 0 mark 0 waits 2 gone 0", "t 0 mark 0 waits 2 gone 0", "t 1 mark 0 waits 2 gone 0",
                                                         "out 0 mark 0 waits 0 gone 0", "out 1 mark 0 waits 0 gone 0"])
        for line in LINES:
            desk.say(line)
        self.assertEqual(desk.say("due"), '1 x 9 + (), 0, 10, 1\n1 x 9 + "x", 0, 10, 1\n1 x 19 + "a", 10, 20, 1')
        self.assertEqual(desk.say("calm"), "11")
        self.assertEqual((desk.say("outside"), desk.say("due")), ('1 x 9 + (), 0, 10, 1\n1 x 9 + "x", 0, 10, 1\n1 x 19 + "a", 10, 20, 1', "nothing"))
        self.assertEqual(desk.say("late"), '1 x b 1 - "z", 1\n2 x b 1 + "q", 1\n1 x zoo 2 - "q", ()')
        self.assertEqual([desk.say(line) for line in ("why 9 + (), 0, 10, 1", 'why 9 + "x", 0, 10, 1', 'why 9 - "x", 0, 10, 1', "why 0 + -", "why 9 + 1, 2, 3, 4, 5, 6, 7, 8, 9, 10, 11")],
                         ["zoo 0 0", "b 0 0", "nothing", "nothing", "nothing"])
        self.assertEqual(desk.say("stand").split(" letters ")[1], "0 read 10")
        self.assertEqual(desk.say("right"), "yes")
        self.assertEqual(desk.say("query"), query_text(QUERY))

    def test_why_tells_a_line_for_each_lot(self):
        desk = a_desk()
        for line in ('feed b 0 row 3 + "x", 5', 'feed zoo 1 row 4 + "x", 5', "feed b 0 mark 10", "feed zoo 0 mark 10", "feed zoo 1 mark 10", "calm"):
            desk.say(line)
        self.assertEqual(desk.say('why 9 + "x", 0, 10, 2'), "b 0 0, zoo 1 0")
        twice = Desk((QUERY[0], ("b", ("both", "zoo", "zoo")), ("out", "b")), {"zoo": 1}, (("b", 1), ("out", 1), ("zoo", 1)), 1)
        for line in ("feed zoo 0 row 3 + (), 5", "feed zoo 0 row 3 + (), 5", "calm"):
            twice.say(line)
        self.assertEqual((twice.say("outside"), twice.say("why 3 + (), 5")), ("4 x 3 + (), 5", "zoo 0 0\nzoo 0 0\nzoo 0 1\nzoo 0 1"))

    def test_not_right(self):
        """No deed leads there: so the house is one that tells so."""
        desk = a_desk()
        desk.house().judge = lambda: ("late", "b")
        self.assertEqual(desk.say("right"), "no")

    def test_numbers_of_four_hundred_digits(self):
        desk = a_desk()
        self.assertEqual(desk.say("hear " + "9" * 400), "1")
        self.assertEqual(desk.say("hear " + "9" * 401), "what")
        self.assertEqual(desk.say("why 3 + " + "9" * 400), "nothing")


class ForAll(unittest.TestCase):
    def test_a_desk_tells_what_its_house_shows(self):
        draw, words = a_draw(591), collections.Counter()
        for _ in range(25):
            query, _, fed = a_case(draw)
            arguments = (query, {name: len(fed[name]) for name in fed}, some_workers(draw, query), draw.choice((1, 3)))
            desk, house, feeds = Desk(*arguments), House(*arguments), all_feeds(draw, fed)
            for _ in range(80):
                event = feeds.pop(0) if feeds and draw.random() < 0.2 else an_event(draw, house.world(), feeds, 30)
                line = draw.choice(("calm", "undo", "redo", "undo")) if draw.random() < 0.12 else event_text(event)
                if draw.random() < 0.05:
                    line = line[:draw.randint(0, len(line))] + draw.choice(("", " ", "x", "0")) + line[draw.randint(0, len(line)):]
                self.assertEqual(desk.say(line), self.done(house, line))
                words[desk.say("right")] += 1
                self.check(desk, house, words)
        self.assertGreater(min(words[word] for word in ("yes", "outside", "late", "due")), 50, words)

    def done(self, house, line):
        """What a house answers to a line, by its own methods."""
        if line in ("undo", "redo"):
            try:
                return str(house.undo() if line == "undo" else house.redo())
            except NothingDone:
                return "refused"
        if line == "calm":
            return str(house.do(("calm",)))
        try:
            event = read_event(line)
        except BadText:
            return "what"
        return str(house.do(event)) if is_event(house.world(), event) else "what"

    def check(self, desk, house, words):
        self.assertEqual((desk.house().deeds(), desk.house().world()), (house.deeds(), house.world()))
        self.assertEqual(desk.say("outside"), text_of(f"{many} x {row_text(row)}" for row, many in house.outside()))
        self.assertEqual(desk.say("due"), text_of(f"{many} x {row_text(row)}" for row, many in house.due()))
        self.assertEqual(desk.say("late"), text_of(f"{many} x {name} {row_text(row)}" for (name, row), many in house.late()))
        self.assertEqual(desk.say("tasks"), text_of("%s %d mark %d waits %d gone %d" % task for task in house.tasks()))
        self.assertEqual(desk.say("stand"), "epoch %d last %d %s letters %d read %d" % house.stand())
        for row, _ in house.outside()[:2] + house.due()[:2]:
            lots = [", ".join(f"{source} {part} {number}" for source, part, number in lot) for lot in house.why(row)]
            self.assertEqual(desk.say("why " + row_text(row)), text_of(lots))
        words.update(word for word in ("outside", "late", "due") if desk.say(word) != "nothing")


if __name__ == "__main__":
    unittest.main()
