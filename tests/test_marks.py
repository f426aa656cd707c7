import unittest

from oncestream.marks import END, is_mark, least_mark, new_marks, put_mark, risen
from tests.makers import ANYTHING, a_draw, within

ONE, TWO = (("a", 0), 0, ("b", 0)), (("a", 1), 0, ("b", 0))


class Marks(unittest.TestCase):
    def test_end(self):
        self.assertEqual(END, 10 ** 9)

    def test_is_mark(self):
        for value, right in ((0, True), (1, True), (END - 1, True), (END, True), (END + 1, False), (-1, False), (True, False),
                             (False, False), (None, False), ("1", False), ((), False), ((1,), False), ([], False), ({}, False),
                             (10 ** 59, False), (-10 ** 59, False), (within(30), False)):
            self.assertIs(is_mark(value), right, value)
        for value in ANYTHING:
            self.assertIs(is_mark(value), value in (0, 1) and not isinstance(value, bool), value)

    def test_new_marks(self):
        self.assertEqual(new_marks([]), {})
        self.assertEqual(new_marks([ONE, TWO]), {ONE: None, TWO: None})
        self.assertEqual(new_marks(((0,), (1,))), {(0,): None, (1,): None})

    def test_put_mark(self):
        marks = new_marks([ONE, TWO])
        steps = [(ONE, 5, 5, None), (ONE, 3, 5, None), (ONE, 5, 5, None), (ONE, 0, 5, None), (TWO, 0, 5, 0), (ONE, 8, 8, 0),
                 (TWO, END, 8, END), (ONE, END, END, END), (ONE, 7, END, END)]
        for channel, m, one, two in steps:
            before = dict(marks)
            put = put_mark(marks, channel, m)
            self.assertEqual(put, {ONE: one, TWO: two})
            self.assertEqual(marks, before)
            marks = put

    def test_least_mark(self):
        for marks, awaited in (({}, END), ({ONE: None}, None), ({ONE: 0}, 0), ({ONE: 5, TWO: None}, None), ({ONE: 0, TWO: None}, None),
                               ({ONE: 5, TWO: 3}, 3), ({ONE: END, TWO: END}, END), ({ONE: END, TWO: 0}, 0)):
            self.assertEqual(least_mark(marks), awaited)

    def test_risen(self):
        for marks, told, awaited in (
            ({}, None, END), ({}, 0, END), ({}, END - 1, END), ({}, END, None), ({ONE: None}, None, None), ({ONE: None}, 0, None),
            ({ONE: 0}, None, 0), ({ONE: 0}, 0, None), ({ONE: 1}, 0, 1), ({ONE: 5, TWO: 3}, 2, 3), ({ONE: 5, TWO: 3}, 3, None),
            ({ONE: 5, TWO: 3}, 4, None), ({ONE: 5, TWO: None}, 0, None), ({ONE: 5, TWO: None}, None, None),
            ({ONE: END}, 0, END), ({ONE: END}, END, None),
        ):
            before = dict(marks)
            self.assertEqual(risen(marks, told), awaited, (marks, told))
            self.assertEqual(marks, before)

    def test_of_many(self):
        draw, channels = a_draw(31), [(k,) for k in range(5)]
        for _ in range(100):
            marks, seen, told = new_marks(channels), {}, None
            for _ in range(30):
                channel, m = draw.choice(channels), draw.choice((0, 1, 2, 3, 10, END))
                seen.setdefault(channel, []).append(m)
                marks = put_mark(marks, channel, m)
                least = min(max(found) for found in seen.values()) if len(seen) == 5 else None
                self.assertEqual(least_mark(marks), least)
                awaited = least if least is not None and (told is None or least > told) else None
                self.assertEqual(risen(marks, told), awaited)
                told = awaited if awaited is not None else told

    def test_nothing_is_shared(self):
        channels = [ONE]
        marks = new_marks(channels)
        marks[TWO] = 5
        self.assertEqual((channels, new_marks(channels)), ([ONE], {ONE: None}))
        put_mark(marks, ONE, 3)[TWO] = 9
        self.assertEqual(marks, {ONE: None, TWO: 5})


if __name__ == "__main__":
    unittest.main()
