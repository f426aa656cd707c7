import unittest

from oncestream.marks import END
from oncestream.scripts import event_text, read_event, read_row, read_script, row_text, script_text
from oncestream.texts import read_query
from oncestream.world import after, is_event, new_world
from tests import earley
from tests.around import Around, place
from tests.makers import ANYTHING, a_draw, within
from tests.scripting import a_case, a_world, all_feeds, an_event
from tests.untouched import looked_at

ROWS = (
    ((0, 1, ()), "0 + -"), ((0, -1, ()), "0 - -"), ((9, 1, ("ann", 0, None)), '9 + "ann", 0, ()'), ((12, -1, (-5, "x y")), '12 - -5, "x y"'), ((5, -1, (-1,)), "5 - -1"),
    ((10 ** 7, 1, ("", None, "-")), '10000000 + "", (), "-"'), ((7, 1, (None,)), "7 + ()"), ((7, 1, ("abcdefghijkl", "a_B-1 ")), '7 + "abcdefghijkl", "a_B-1 "'), ((1, 1, (0, -10, 90)), "1 + 0, -10, 90"),
)
EVENTS = (
    (("feed", "clicks", 0, ("mark", 30)), "feed clicks 0 mark 30"), (("feed", "clicks", 0, ("row", 12, -1, ("bob", None))), 'feed clicks 0 row 12 - "bob", ()'), (("feed", "a", 12, ("row", 5, 1, ())), "feed a 12 row 5 + -"),
    (("read", 3), "read 3"), (("move", 0), "move 0"), (("begin",), "begin"), (("again",), "again"), (("hear", 10), "hear 10"), (("lose", 7), "lose 7"), (("double", 99999999), "double 99999999"), (("fall",), "fall"),
    (("stop",), "stop"), (("workers", ()), "workers -"), (("workers", (("clicks", 2), ("out", 1), ("total", 3))), "workers clicks 2, out 1, total 3"), (("workers", (("a", 4),)), "workers a 4"),
    (("torn", ("hear", 0), 12), "torn 12 hear 0"), (("torn", ("feed", "z", 1, ("row", 3, 1, (-4,))), 0), "torn 0 feed z 1 row 3 + -4"), (("torn", ("feed", "z", 1, ("mark", 0)), 20), "torn 20 feed z 1 mark 0"),
    (("torn", ("read", 1), 2), "torn 2 read 1"), (("torn", ("move", 5), 60), "torn 60 move 5"), (("torn", ("begin",), 1), "torn 1 begin"), (("torn", ("fall",), 9), "torn 9 fall"),
    (("torn", ("workers", (("clicks", 2), ("out", 1))), 7), "torn 7 workers clicks 2, out 1"), (("torn", ("workers", ()), 7), "torn 7 workers -"),
)
# Signs to put in and to exchange: some of each sort, and all that stand in the texts.
SOME = "abeflnrstwxz0159AZ-+_ \"(),\n.\t"


class Writing(unittest.TestCase):
    def test_rows(self):
        for row, text in ROWS:
            self.assertEqual((looked_at(self, row_text, row), looked_at(self, read_row, text)), (text, row))

    def test_events(self):
        for event, text in EVENTS:
            self.assertEqual((looked_at(self, event_text, event), looked_at(self, read_event, text)), (text, event))

    def test_scripts(self):
        events, texts = [event for event, _ in EVENTS], [text for _, text in EVENTS]
        for low in range(0, len(EVENTS), 5):
            for high in range(low, len(EVENTS) + 1, 3):
                text = "\n".join(texts[low:high])
                self.assertEqual((looked_at(self, script_text, events[low:high]), looked_at(self, read_script, text)), (text, events[low:high]))
                self.assertEqual(script_text(tuple(events[low:high])), text)
        self.assertEqual((script_text([]), read_script("")), ("", []))
        self.assertIsInstance(read_script("begin"), list)

    def test_what_is_read_need_not_be_an_event_that_can_be(self):
        for event in (("feed", "nowhere", 10 ** 12, ("row", 10 ** 12, 1, (1, 2, 3, 4, 5, 6, 7, 8, 9, 10))), ("feed", "a", 0, ("mark", END * 5)), ("workers", (("b", 0), ("a", 99), ("a", 99))), ("torn", ("workers", (("a", 0),)), 1)):
            self.assertEqual(read_event(event_text(event)), event)

    def test_numbers_of_four_hundred_digits(self):
        most = "1" + "0" * 399
        for text in (most + " + -", "0 + " + most, "0 + -" + most, f"0 - {most}, -{most}"):
            self.assertEqual(row_text(read_row(text)), text)
        self.assertEqual(read_row(f"{most} + -{most}"), (10 ** 399, 1, (-10 ** 399,)))
        for text in ("read " + most, f"feed a {most} mark {most}", f"workers a {most}, b {most}", f"torn {most} hear {most}"):
            self.assertEqual(event_text(read_event(text)), text)
            self.assertEqual(script_text(read_script(text + "\n" + text)), text + "\n" + text)
        for ahead, behind in (("", " + -"), ("0 + ", ""), ("0 + -", ""), ("0 + 1, ", ", 2")):
            self.assertEqual(place(read_row, ahead + most + "0" + behind), len(ahead) + 400)
        for ahead, behind in (("read ", ""), ("feed a ", " mark 0"), ("feed a 0 mark ", ""), ("feed a 0 row ", " + -"), ("workers a ", ""), ("workers a 1, b ", ""), ("torn ", " fall"), ("torn 1 hear ", "")):
            self.assertEqual(place(read_event, ahead + most + "0" + behind), len(ahead) + 400)
            self.assertEqual(place(read_script, "begin\n" + ahead + most + "0" + behind), 6 + len(ahead) + 400)

    def test_all_that_happens_can_be_written(self):
        draw = a_draw(561)
        for _ in range(20):
            _, plan, fed = a_case(draw)
            world, feeds, script = a_world(draw, plan, fed), all_feeds(draw, fed), []
            for _ in range(60):
                script.append(an_event(draw, world, feeds, 300))
                world = after(world, script[-1])
            self.assertEqual(read_script(script_text(script)), script)
            self.assertEqual([read_event(line) for line in script_text(script).split("\n")], script)

    def test_what_is_read_is_an_event_where_it_can_be(self):
        world = new_world(read_query("clicks: source user text, price number\ntotal: keep clicks where price\nout total"), {"clicks": 2}, (("clicks", 1), ("out", 1), ("total", 1)), 1)
        for text, can_be in (('feed clicks 1 row 5 + "ann", -3', True), ("feed clicks 2 mark 0", False), ('feed clicks 0 row 5 + "ann"', False), ("workers clicks 4, out 1, total 2", True), ("workers clicks 5, out 1, total 2", False),
                             ("workers out 1, clicks 1, total 2", False), ("workers -", False), ("torn 0 workers clicks 1, out 1, total 1", True), ("double " + "9" * 400, True), ("feed clicks 0 mark 1000000001", False)):
            self.assertIs(is_event(world, read_event(text)), can_be, text)


class Places(Around, unittest.TestCase):
    def test_what_is_no_text(self):
        for value in ANYTHING + (within(30), b"begin"):
            if not isinstance(value, str):
                for read in (read_row, read_event, read_script):
                    self.assertEqual(place(read, value), 0)
        self.assertEqual((place(read_row, ""), place(read_event, ""), place(read_script, "")), (0, 0, None))

    def test_told_places_of_rows(self):
        for text, awaited in (
            ("9", 1), ("9 ", 2), ("9 +", 3), ("9 + ", 4), ("9 + -", None), ("9 + --", 5), ("9 + -0", 5), ("9 + -x", 5), ("9 + - ", 5), ("9 + -, 1", 5), ("9 + 1, -", 8), ("9 + 1, ", 7), ("9 + 1,2", 6), ("9 + 1 ,2", 5), ("9 * 1", 2),
            ("-9 + 1", 0), ("09 + 1", 1), ("9  + 1", 2), (" 9 + 1", 0), ("9 + 01", 5), ("9 + 1 ", 5), ("9 + 1\n", 5), ('9 + "abcdefghijklm"', 17), ('9 + "a.b"', 6), ('9 + "a', 6), ("9 + (", 5), ("9 + ( )", 5), ("9 + ()()", 6), ("9 + a", 4),
            ("9 + -5-", 6), ("9+1", 1), ("9 +1", 3), ("x", 0), ("9 + None", 4), ("9 + +1", 4), ("9 + -\u0661", 5), ("9 + -\u00b2", 5), ("\u0661 + -", 0), ('9 + "\u00e9"', 5),
        ):
            self.assertEqual(place(read_row, text), awaited, text)

    def test_told_places_of_events(self):
        for text, awaited in (
            ("read x", 5), ("read", 4), ("read ", 5), ("read 01", 6), ("read 1 ", 6), ("read -1", 5), ("reads 1", 4), ("r", 1), ("x", 0), ("f", 1), ("fe", 2), ("fa", 2), ("fo", 1), ("be", 2), ("begin ", 5), ("begins", 5), ("Begin", 0), ("calm", 0),
            ("torn", 4), ("torn 5", 6), ("torn 5 ", 7), ("torn 5 again", 7), ("torn 5 stop", 7), ("torn 5 lose 1", 7), ("torn 5 double 1", 7), ("torn 5 torn 5 fall", 7), ("torn 5 f", 8), ("torn fall", 5), ("torn 05 fall", 6), ("torn 5 fall ", 11),
            ("torn 5 read", 11), ("torn  5 fall", 5), ("feed", 4), ("feed A 0 mark 1", 5), ("feed abcdefghi 0 mark 1", 13), ("feed a b mark 1", 7), ("feed a 0 mask 1", 11), ("feed a 0 roe 1", 11), ("feed a 0 mark -1", 14), ("feed a 0 mark", 13),
            ("feed a 0 row 1", 14), ("feed a 0 row 1 + -5, ", 21), ("feed a 0  row 1 + -", 9), ("workers", 7), ("workers ", 8), ("workers a", 9), ("workers a 1,", 12), ("workers a 1, ", 13), ("workers a 1,b 1", 12), ("workers - ", 9), ("workers -1", 9),
            ("workers a -1", 10), ("workers a 1 b 1", 11), ("workers a1", 9), ("undo", 0), ("\n", 0), ("begin\n", 5), ("stop\nstop", 4), ("ste", 2), ("s", 1), ("double", 6), ("doubled 1", 6), ("wait", 1), ("moves", 4), ("lost 1", 3), ("heard", 4), ("age", 2),
        ):
            self.assertEqual(place(read_event, text), awaited, text)

    def test_told_places_of_scripts(self):
        for text, awaited in (
            ("\n", 0), ("begin\n", 6), ("begin\n\nfall", 6), ("begin\n\n", 6), ("\nbegin", 0), ("begin fall", 5), ("begin\nfall\nx", 11), ("begin\r\nfall", 5), ("read 1\nread", 11), ("read 1\nread ", 12), ("read 10\nread 01", 14), (" begin", 0),
            ("begin\n fall", 6), ("torn 5 fall\ntorn 5 stop", 19), ("feed a 0 row 1 + -\nfeed a 0 row 1 + -x", 37), ("feed a 0 row 1 + -\nbegin", None), ("begin\nbegin", None), ("stopstop", 4), ("read 1read 2", 6),
        ):
            self.assertEqual(place(read_script, text), awaited, text)

    def test_around_each_row(self):
        for _, text in ROWS:
            self.check_around("row", read_row, row_text, text, SOME)

    def test_around_each_event(self):
        for _, text in EVENTS:
            self.check_around("event", read_event, event_text, text, SOME)

    def test_around_scripts(self):
        for low in range(0, len(EVENTS), 4):
            self.check_around("script", read_script, script_text, "\n".join(text for _, text in EVENTS[low:low + 3]), SOME[::2])
        self.check_around("script", read_script, script_text, "", SOME)

    def test_two_texts_one_behind_another(self):
        texts, draw = [text for _, text in EVENTS], a_draw(562)
        for _ in range(400):
            one, other = draw.choice(texts) + "\n" * draw.randint(0, 1), draw.choice(texts)
            text = one[:draw.randint(0, len(one))] + other[draw.randint(0, len(other)):]
            self.check("script", read_script, script_text, earley.begun("script"), text)
            self.check("event", read_event, event_text, earley.begun("event"), text)


if __name__ == "__main__":
    unittest.main()
