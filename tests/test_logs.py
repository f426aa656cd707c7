import unittest

from oncestream.errors import BadDisk
from oncestream.logs import entries_of, entry_at, is_entry, late_places, mended, torn, written
from oncestream.marks import END
from oncestream.seals import records, sealed, word_text
from tests.makers import ANYTHING, a_draw, exchanged, within
from tests.untouched import looked_at

ROW, BACK, MARK = ("row", 3, 1, (7, None, "a b")), ("row", 0, -1, ()), ("mark", 5)
ENTRIES = [MARK, ROW, BACK, ("mark", 0), ("row", 10 ** 8, 1, ("", -5)), ("mark", END)]


def an_entry(draw):
    if draw.random() < 0.4:
        return ("mark", draw.choice((0, 1, 3, 5, 9, END)))
    return ("row", draw.choice((0, 1, 3, 5, 9, 10 ** 8)), draw.choice((1, -1)), tuple(draw.choice((None, 7, -1, "", "x y")) for _ in range(draw.randint(0, 3))))


def text_of(entries):
    return "".join(sealed(word_text(entry)) for entry in entries)


class Entries(unittest.TestCase):
    def test_right_ones(self):
        eight = ("row", 0, 1, (None, 1, "a", -1, "", 10 ** 59, "abcdefghijkl", 0))
        for value in ENTRIES + [eight, ("row", 0, 1, (1,) * 20), ("row", 0, -1, (None,))]:
            self.assertIs(looked_at(self, is_entry, value), True, value)

    def test_wrong_ones(self):
        for value in (
            ("row", -1, 1, ()), ("row", 10 ** 8 + 1, 1, ()), ("row", True, 1, ()), ("row", False, 1, ()), ("row", None, 1, ()), ("row", "3", 1, ()), ("row", 3, 0, ()), ("row", 3, 2, ()),
            ("row", 3, -2, ()), ("row", 3, True, ()), ("row", 3, None, ()), ("row", 3, 1, []), ("row", 3, 1, None), ("row", 3, 1, 7), ("row", 3, 1, (True,)), ("row", 3, 1, ("a.b",)),
            ("row", 3, 1, ("a" * 13,)), ("row", 3, 1, ((),)), ("row", 3, 1, (7, [1])), ("row", 3, 1), ("row", 3, 1, (), 0), ("row",), ("row", (3, 1, ())), ["row", 3, 1, ()], ("Row", 3, 1, ()),
            ("mark", -1), ("mark", END + 1), ("mark", True), ("mark", False), ("mark", None), ("mark", "5"), ("mark",), ("mark", 5, 5), ("mark", (5,)), ["mark", 5], ("marks", 5), ("barrier", 5),
            ("mark", 3, 1, ()), ("row", 5), (None, 5), (True, 5), (("mark",), 5), (["mark"], 5), ({}, 5), (), [], {}, {"mark": 5}, None, 0, True, "mark", "row", within(30), (within(29),),
        ):
            self.assertIs(looked_at(self, is_entry, value), False, value)
        for value in ANYTHING:
            is_right = value == ("mark", 5) or isinstance(value, tuple) and value == ("row", 1, 1, ())
            self.assertIs(is_entry(value), is_right, value)
            self.assertIs(is_entry(("row", 3, 1, value)), value in ((), (None,), ("a",), ("a", "b"), ("column", "a"), ("even", 0), ("even", 10), ("sliding", 10, 0),
                                                                    ("plus", 1), ("not",), ("mark", 5)) and "True" not in repr(value), value)

    def test_one_thing_exchanged(self):
        for entry in (ROW, MARK):
            for value in exchanged(entry, lambda thing: [True, [thing], {}, "!"] + ([list(thing)] if isinstance(thing, tuple) else [])):
                self.assertIs(is_entry(value), False, value)


class Logs(unittest.TestCase):
    LOG = text_of(ENTRIES)

    def test_written_and_read(self):
        self.assertEqual(looked_at(self, written, "", ENTRIES), self.LOG)
        self.assertEqual((written("", tuple(ENTRIES)), written("", []), written(self.LOG, [])), (self.LOG, "", self.LOG))
        self.assertEqual((looked_at(self, entries_of, self.LOG), entries_of("")), (tuple(ENTRIES), ()))
        self.assertEqual(written(written("", ENTRIES[:2]), ENTRIES[2:]), self.LOG)
        self.assertEqual(self.LOG[:15], "12:(t4:marki5;)")

    def test_entry_at(self):
        for log in (self.LOG, self.LOG + "12:(t4:mar"):
            self.assertEqual([looked_at(self, entry_at, log, place) for place in range(9)], ENTRIES + [None] * 3)
        self.assertEqual((entry_at("", 0), entry_at("", 5), entry_at("x", 0), entry_at(self.LOG, 10 ** 9)), (None,) * 4)

    def test_torn_ends_are_left_out(self):
        more = text_of([ROW])
        for keep in range(len(more)):
            self.assertEqual(entries_of(self.LOG + more[:keep]), tuple(ENTRIES))
            self.assertEqual(looked_at(self, mended, self.LOG + more[:keep]), self.LOG)
        for rest in ("x", ":", "0", "0:0000", "1:N00208", "12:(t4:marki5;)00000", "\n", "\u00e9"):
            self.assertEqual((entries_of(self.LOG + rest), mended(self.LOG + rest), entries_of(rest), mended(rest)), (tuple(ENTRIES), self.LOG, (), ""))
        # What stands behind a torn end is none of the log, however whole it is.
        self.assertEqual(entries_of(self.LOG + "x" + self.LOG), tuple(ENTRIES))
        self.assertEqual((mended(self.LOG), mended("")), (self.LOG, ""))

    def bad(self, log, number):
        for read in (entries_of, lambda log: entry_at(log, 0), lambda log: entry_at(log, 99)):
            with self.assertRaises(BadDisk) as caught:
                read(log)
            self.assertEqual(caught.exception.place, number, log)

    def test_sealed_texts_that_are_no_entries(self):
        for text in ("N", "T", "i5;", "t4:mark", "()", "(t4:mark)", "(t4:markT)", "(t4:marki1000000001;)", "(t4:marki5;i5;)", "(t3:rowi3;i1;)", "(t3:rowi3;i1;N)", "(t3:rowi3;i1;(T))",
                     "(t3:rowi3;i0;())", "(t3:rowi100000001;i1;())", "(t3:rowi3;i1;(t13:abcdefghijklm))", "", "x", "(t4:marki5;", "(t4:marki05;)", "(t4:marki5;) ", "(t5:marki5;)"):
            self.bad(records([text]), 0)
            self.bad(text_of(ENTRIES) + records([text]) + "12:(t4", len(ENTRIES))
            self.bad(text_of(ENTRIES[:2]) + records([text]) + text_of(ENTRIES) + records([text, "x"]), 2)
            # Going by the seals alone raises nothing.
            log = records([text])
            self.assertEqual((mended(log + "x"), written(log + "x", [MARK]), torn(log + "x", [MARK], 5)), (log, log + text_of([MARK]), log + text_of([MARK])[:5]))

    def test_torn(self):
        base, more = text_of(ENTRIES[:2]), [ROW, MARK, BACK]
        whole = text_of(more)
        for log in ("", base, base + "12:(t4", "zz"):
            kept = base if log.startswith(base) else ""
            for keep in list(range(len(whole) + 3)) + [10 ** 6]:
                found = torn(log, more, keep)
                self.assertEqual(found, kept + whole[:keep])
                left = [entry for at, entry in enumerate(more) if len(text_of(more[:at + 1])) <= keep]
                self.assertEqual(entries_of(found), entries_of(kept) + tuple(left))
                # What is written behind a torn end stands right behind what is whole.
                self.assertEqual(entries_of(written(found, [MARK])), entries_of(kept) + tuple(left) + (MARK,))
        self.assertEqual(looked_at(self, torn, base + "x", more, 7), base + whole[:7])
        self.assertEqual((torn(base, [], 5), torn("x", (), 0), torn("", tuple(more), 10 ** 6)), (base, "", whole))

    def test_of_many(self):
        draw = a_draw(111)
        for _ in range(100):
            log, there = "", []
            for _ in range(draw.randint(0, 6)):
                entries = [an_entry(draw) for _ in range(draw.randint(0, 3))]
                keep = draw.choice((0, 10 ** 6, draw.randint(0, 60)))
                left = [entry for at, entry in enumerate(entries) if len(text_of(entries[:at + 1])) <= keep]
                log, there = torn(log, entries, keep), there + left
                self.assertEqual(entries_of(log), tuple(there))
                self.assertEqual(entries_of(mended(log)), tuple(there))
                self.assertEqual(mended(mended(log)), mended(log))
                self.assertEqual([entry_at(log, place) for place in range(len(there) + 1)], there + [None])

    def test_late_places(self):
        row = lambda time: ("row", time, 1, (7,))
        for entries, awaited in (
            ((), ()), ((row(3),), ()), ((("mark", 5), row(4), row(5), row(6)), (1,)), ((row(3), ("mark", 5), row(3)), (2,)), ((("mark", 5), ("mark", 2), row(4), row(2)), (2, 3)),
            ((("mark", 0), row(0)), ()), ((("mark", END), row(10 ** 8), row(0)), (1, 2)), ((("mark", 3), row(2), ("mark", 9), row(8), row(9), row(2)), (1, 3, 5)),
        ):
            self.assertEqual(looked_at(self, late_places, entries), awaited)
        draw = a_draw(112)
        for _ in range(100):
            entries = tuple(an_entry(draw) for _ in range(draw.randint(0, 12)))
            awaited = [at for at, entry in enumerate(entries) if entry[0] == "row" and any(other[0] == "mark" and other[1] > entry[1] for other in entries[:at])]
            self.assertEqual(late_places(entries), tuple(awaited))


if __name__ == "__main__":
    unittest.main()
