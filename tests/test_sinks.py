import unittest

from oncestream.sinks import at_sink, fresh_sink, put_row
from oncestream.sources import again
from tests.untouched import looked_at

TASK = ("out", 3)
ROWS = ((3, 1, ("a", 5)), (0, -1, ()), (10 ** 9, 1, (None,)))
LETTER = ("hold", 4, 1, TASK, ROWS[1:])


class Sinks(unittest.TestCase):
    def test_fresh(self):
        self.assertEqual(looked_at(self, fresh_sink), ((), None))
        self.assertEqual(again(fresh_sink()), ())

    def test_rows_come_in_order_and_the_letter_stays(self):
        for letter in (None, LETTER):
            sink = ((), letter)
            for many, row in enumerate(ROWS + ROWS, 1):
                sink = looked_at(self, put_row, sink, row)
                self.assertEqual(sink, ((ROWS + ROWS)[:many], letter))

    def test_a_barrier(self):
        for rows in ((), ROWS[:1], ROWS, ROWS[::-1]):
            for elder in (None, LETTER):
                for epoch, n in ((0, 1), (7, 12)):
                    letter = ("hold", epoch, n, TASK, rows)
                    told = looked_at(self, at_sink, (rows, elder), epoch, n, TASK)
                    self.assertEqual(told, (((), letter), (), letter))
                    self.assertEqual(looked_at(self, again, told[0]), (letter,))

    def test_again_tells_the_last_letter_whatever_came_since(self):
        sink = put_row(fresh_sink(), ROWS[0])
        self.assertEqual(again(sink), ())
        sink, _, first = at_sink(sink, 1, 1, TASK)
        sink = put_row(sink, ROWS[1])
        self.assertEqual(again(sink), (first,))
        sink, _, second = at_sink(sink, 1, 2, TASK)
        self.assertEqual((again(sink), first[4], second[4]), ((second,), ROWS[:1], ROWS[1:2]))
        self.assertEqual(at_sink(sink, 1, 3, TASK)[2], ("hold", 1, 3, TASK, ()))


if __name__ == "__main__":
    unittest.main()
