import copy
import unittest
from collections import Counter

from oncestream.bags import added, bag_of, is_part, rows_of, taken, unlike
from oncestream.values import ranks
from tests.makers import a_draw

# Rows ascending: by time, sign, and values with None ahead of numbers ahead of texts.
ROWS = [
    (0, -1, (None,)), (0, -1, (5,)), (0, 1, (None,)), (0, 1, (-1,)), (0, 1, (0,)), (0, 1, ("",)), (0, 1, ("a",)),
    (1, -1, ("b",)), (1, 1, (None,)), (2, -1, (-10,)), (2, -1, (9,)), (2, -1, (10,)), (10, 1, ("B",)), (10, 1, ("a",)),
]
ONE, BACK = (5, 1, ("a",)), (5, -1, ("a",))


def a_bag(draw):
    return {row: draw.randint(1, 3) for row in draw.sample(ROWS, draw.randint(0, 6))}


class Bags(unittest.TestCase):
    def test_bag_of(self):
        self.assertEqual(bag_of([]), {})
        self.assertEqual(bag_of([ONE, BACK, ONE, ONE]), {ONE: 3, BACK: 1})
        self.assertEqual(bag_of((ONE, ONE)), {ONE: 2})
        self.assertEqual(bag_of([(5, 1, (None,)), (5, 1, (0,)), (5, 1, ("",)), (5, 1, ())]),
                         {(5, 1, (None,)): 1, (5, 1, (0,)): 1, (5, 1, ("",)): 1, (5, 1, ()): 1})

    def test_rows_of(self):
        self.assertEqual(rows_of({}), [])
        self.assertEqual(rows_of({row: 1 for row in ROWS[::-1]}), ROWS)
        self.assertEqual(rows_of({ONE: 2, BACK: 3}), [BACK, BACK, BACK, ONE, ONE])
        two = [(5, 1, ("a", None)), (5, 1, ("a", 3)), (5, 1, ("a", "")), (5, 1, ("b", None))]
        self.assertEqual(rows_of({row: 1 for row in two[::-1]}), two)

    def test_rows_of_and_bag_of(self):
        draw = a_draw(21)
        for _ in range(100):
            rows = [draw.choice(ROWS) for _ in range(draw.randint(0, 20))]
            self.assertEqual(rows_of(bag_of(rows)), sorted(rows, key=lambda row: (row[0], row[1], ranks(row[2]))))

    def test_added_and_taken(self):
        self.assertEqual(added({ONE: 1}, {ONE: 2, BACK: 1}), {ONE: 3, BACK: 1})
        self.assertEqual((added({}, {}), added({ONE: 2}, {}), added({}, {ONE: 2})), ({}, {ONE: 2}, {ONE: 2}))
        self.assertEqual(taken({ONE: 3, BACK: 1}, {ONE: 1}), {ONE: 2, BACK: 1})
        for more in (3, 4, 100):
            self.assertEqual(taken({ONE: 3, BACK: 1}, {ONE: more}), {BACK: 1})
        self.assertEqual((taken({}, {ONE: 1}), taken({ONE: 1}, {}), taken({ONE: 1}, {BACK: 1})), ({}, {ONE: 1}, {ONE: 1}))

    def test_is_part(self):
        for one, other, awaited in (({}, {}, True), ({}, {ONE: 1}, True), ({ONE: 1}, {}, False), ({ONE: 1}, {ONE: 1}, True),
                                    ({ONE: 2}, {ONE: 1}, False), ({ONE: 1}, {BACK: 1}, False),
                                    ({ONE: 1, BACK: 1}, {ONE: 5, BACK: 1}, True), ({ONE: 1, BACK: 2}, {ONE: 5, BACK: 1}, False)):
            self.assertIs(is_part(one, other), awaited)

    def test_unlike(self):
        self.assertIsNone(unlike({}, {}))
        self.assertIsNone(unlike({ONE: 2, BACK: 1}, {BACK: 1, ONE: 2}))
        self.assertEqual(unlike({}, {ONE: 2}), (ONE, 0, 2))
        self.assertEqual(unlike({ONE: 2}, {}), (ONE, 2, 0))
        self.assertEqual(unlike({ONE: 2, BACK: 1}, {ONE: 1, BACK: 1}), (ONE, 2, 1))
        self.assertEqual(unlike({ONE: 2}, {BACK: 1}), (BACK, 0, 1))
        for at, row in enumerate(ROWS):
            rest = {other: 1 for other in ROWS[at:]}
            self.assertEqual(unlike(rest, {}), (row, 1, 0))
            self.assertEqual(unlike({other: 1 for other in ROWS[:at]}, {other: 1 for other in ROWS[::-1]}), (row, 0, 1))

    def test_of_many(self):
        draw = a_draw(22)
        for _ in range(500):
            one, other = a_bag(draw), a_bag(draw)
            before = copy.deepcopy((one, other))
            self.assertEqual(added(one, other), dict(Counter(one) + Counter(other)))
            self.assertEqual(taken(one, other), dict(Counter(one) - Counter(other)))
            self.assertIs(is_part(one, other), taken(one, other) == {})
            differing = [row for row in ROWS if one.get(row, 0) != other.get(row, 0)]
            awaited = (differing[0], one.get(differing[0], 0), other.get(differing[0], 0)) if differing else None
            self.assertEqual(unlike(one, other), awaited)
            self.assertEqual(taken(added(one, other), other), one)
            self.assertEqual((one, other), before)

    def test_nothing_is_shared(self):
        one, other = {ONE: 1}, {}
        for made in (added(one, other), added(other, one), taken(one, other)):
            made[BACK] = 5
            made[ONE] = 7
        self.assertEqual((one, other), ({ONE: 1}, {}))
        rows = [ONE]
        bag_of(rows)[ONE] = 5
        rows_of(one).append(BACK)
        self.assertEqual((rows, one, bag_of(rows)), ([ONE], {ONE: 1}, {ONE: 1}))


if __name__ == "__main__":
    unittest.main()
