import itertools
import unittest

from oncestream.finishing import finish_fresh, finish_joined, finish_marked, finish_put, finish_rows, finish_split
from oncestream.marks import END
from oncestream.meaning import meaning
from oncestream.values import ranks
from tests.makers import a_draw
from tests.test_graphs import plain_group
from tests.test_windows import COLUMNS, SHAPES, a_step, filled
from tests.untouched import looked_at
from tests.weaving import a_row
from oncestream.windows import marked

N, ONE = ("column", "n"), ("value", 1)
SUMS = (("c", "count", ONE), ("d", "sum", ("plus", N, N)))
ALL = tuple(range(16))


def put_all(rows, keys, state=()):
    for row in rows:
        state = finish_put(state, row, keys)
    return state


def gathered(low, high, key, *sums):
    """A row that a gather gives."""
    return (high - 1, 1, key + (low, high) + sums)


class States(unittest.TestCase):
    def test_fresh(self):
        self.assertEqual(finish_fresh(), ())

    def test_put(self):
        state = looked_at(self, finish_put, (), gathered(0, 10, ("x",), 1, 5), 1)
        self.assertEqual(state, ((("x", 0, 10), (1, 5)),))
        self.assertEqual(looked_at(self, finish_put, state, gathered(0, 10, ("x",), 2, -7), 1), ((("x", 0, 10), (3, -2)),))
        self.assertEqual(finish_put(state, gathered(10, 20, ("x",), 2, -7), 1), ((("x", 0, 10), (1, 5)), (("x", 10, 20), (2, -7))))
        self.assertEqual(finish_put(state, gathered(0, 20, ("x",), 2, -7), 1), ((("x", 0, 10), (1, 5)), (("x", 0, 20), (2, -7))))
        self.assertEqual(finish_put(state, gathered(0, 10, (None,), 2, -7), 1), (((None, 0, 10), (2, -7)), (("x", 0, 10), (1, 5))))
        self.assertEqual(finish_put(state, gathered(0, 10, ("x",), -1, -5), 1), ((("x", 0, 10), (0, 0)),))

    def test_without_keys_and_without_sums(self):
        self.assertEqual(put_all([gathered(0, 10, (), 4), gathered(10, 20, (), 1), gathered(0, 10, (), 3)], 0), (((0, 10), (7,)), ((10, 20), (1,))))
        self.assertEqual(put_all([gathered(0, 10, ("x", 3)), gathered(0, 10, ("x", 3))], 2), ((("x", 3, 0, 10), ()),))
        self.assertEqual(finish_marked((((0, 10), ()),), 10), ((), ((9, 1, (0, 10)),)))

    def test_keys_ascend(self):
        keys = [(None, None), (None, ""), (-1, "b"), (0, None), (0, "a"), (5, "Z"), (5, "a"), (9, ""), (10, "a"), ("", 0), ("x", None)]
        rows = [gathered(low, high, key, 1) for key in keys for low, high in ((0, 10), (0, 20), (9, 15), (10, 12))]
        draw = a_draw(81)
        for _ in range(5):
            draw.shuffle(rows)
            state = put_all(rows, 2)
            self.assertEqual([at for at, _ in state], sorted([row[2][:4] for row in rows], key=ranks))

    def test_marked(self):
        state = put_all([gathered(0, 10, ("x",), 2), gathered(4, 14, ("x",), 3), gathered(0, 10, (None,), 0), gathered(8, 18, ("a",), 1)], 1)
        for mark, many in ((0, 0), (9, 0), (10, 2), (11, 2), (13, 2), (14, 3), (17, 3), (18, 4), (END, 4)):
            left, rows = looked_at(self, finish_marked, state, mark)
            awaited = [(9, 1, (None, 0, 10, 0)), (9, 1, ("x", 0, 10, 2)), (13, 1, ("x", 4, 14, 3)), (17, 1, ("a", 8, 18, 1))]
            self.assertEqual(rows, tuple(awaited[:many]))
            self.assertEqual(left, tuple(pair for pair in state if pair[0][2] > mark))

    def test_rows_ascend(self):
        rows = [gathered(low, high, (key,), 1) for key in (None, -1, 3, 10, "", "a") for low, high in ((0, 10), (4, 10), (0, 7))]
        state = put_all(rows, 1)
        self.assertEqual(finish_marked(state, 10)[1], tuple(sorted(rows, key=lambda row: (row[0], row[1], ranks(row[2])))))

    def test_split_and_joined(self):
        draw = a_draw(82)
        for keys in (0, 1, 2):
            rows = [gathered(low, low + 10, tuple(draw.choice((None, 1, "a", "b", "", -5)) for _ in range(keys)), 1) for low in range(0, 40, 5) for _ in range(3)]
            state = put_all(rows, keys)
            for many in (1, 2, 3, 4):
                lots = [tuple(g for g in ALL if g % many == number) for number in range(many)]
                parts = [looked_at(self, finish_split, state, groups, keys) for groups in lots]
                self.assertEqual(looked_at(self, finish_joined, parts[::-1]), state)
                self.assertEqual(finish_joined(tuple(parts)), state)
            for g in ALL:
                self.assertEqual(finish_split(state, (g,), keys), tuple(pair for pair in state if plain_group(pair[0][:keys]) == g))
            self.assertEqual((finish_split(state, (), keys), finish_split(state, ALL, keys)), ((), state))
        self.assertEqual((finish_joined([]), finish_joined([(), ()]), finish_joined([()])), ((), (), ()))

    def test_parts_go_on_as_the_whole(self):
        draw = a_draw(83)
        rows = [gathered(low, low + 10, (draw.choice((None, 1, "a", "b", "")),), draw.randint(-3, 3)) for low in range(0, 40, 5) for _ in range(4)]
        draw.shuffle(rows)
        state, parts = put_all(rows[:16], 1), [finish_split(put_all(rows[:16], 1), groups, 1) for groups in (ALL[:5], ALL[5:])]
        for row in rows[16:]:
            state = finish_put(state, row, 1)
            at = int(plain_group(row[2][:1]) >= 5)
            parts[at] = finish_put(parts[at], row, 1)
            self.assertEqual(finish_joined(parts), state)
        for mark in (12, 20, 33, END):
            state, told = finish_marked(state, mark)
            found = [finish_marked(part, mark) for part in parts]
            parts = [part for part, _ in found]
            self.assertEqual((sorted(found[0][1] + found[1][1], key=lambda row: (row[0], ranks(row[2]))), finish_joined(parts)), (list(told), state))


class Rows(unittest.TestCase):
    LOTS = [[(3, 1, ("x", 5)), (9, -1, ("y", 1))], [], [(7, 1, ("x", 2)), (12, 1, ("y", 1)), (10, 1, (None, None))], []]

    def test_marks_at_an_end(self):
        first = [(9, 1, ("x", 0, 10, 2, 14)), (9, 1, ("y", 0, 10, -1, -2))]
        second = [(19, 1, (None, 10, 20, 1, 0)), (19, 1, ("y", 10, 20, 1, 2))]
        for mark, awaited in ((0, []), (1, []), (9, []), (10, first), (11, first), (19, first), (20, first + second), (END, first + second)):
            self.assertEqual(looked_at(self, finish_rows, self.LOTS, ("k",), ("even", 10), SUMS, COLUMNS, mark), awaited)
            self.assertEqual(finish_rows(tuple(tuple(lot) for lot in self.LOTS), ("k",), ("even", 10), SUMS, COLUMNS, mark), awaited)

    def test_nothing_at_all(self):
        for lots in ([], [[]], [[], [], []]):
            self.assertEqual(finish_rows(lots, ("k",), ("even", 10), SUMS, COLUMNS, END), [])

    def test_without_keys_and_without_sums(self):
        self.assertEqual(finish_rows(self.LOTS, (), ("even", 10), (), COLUMNS, END), [(9, 1, (0, 10)), (19, 1, (10, 20))])
        self.assertEqual(finish_rows(self.LOTS, (), ("sliding", 10, 5), SUMS[:1], COLUMNS, 15), [(9, 1, (0, 10, 1)), (14, 1, (5, 15, 2))])
        self.assertEqual(finish_rows(self.LOTS, ("n", "k"), ("even", 20), (), COLUMNS, 20),
                         [(19, 1, key + (0, 20)) for key in ((None, None), (1, "y"), (2, "x"), (5, "x"))])

    def test_a_row_and_its_taking_back_in_unlike_lots(self):
        self.assertEqual(finish_rows([[(3, 1, ("x", 5))], [(3, -1, ("x", 5))]], ("k",), ("even", 10), SUMS, COLUMNS, 10), [(9, 1, ("x", 0, 10, 0, 0))])

    def test_rows_in_holes(self):
        self.assertEqual(finish_rows([[(3, 1, ("x", 5))], [(5, 1, ("x", 5)), (4, 1, ("x", 5))]], ("k",), ("sliding", 3, 5), SUMS, COLUMNS, END), [(7, 1, ("x", 5, 8, 1, 10))])

    def test_however_rows_are_shared_out(self):
        draw = a_draw(84)
        for _ in range(80):
            window, keys = draw.choice(SHAPES), draw.choice(((), ("k",), ("n", "k")))
            sums = draw.choice((SUMS, (), SUMS[1:]))
            rows = [a_row(draw, COLUMNS, 0, 30) for _ in range(draw.randint(0, 14))]
            lots = [[] for _ in range(draw.randint(1, 4))]
            for row in rows:
                draw.choice(lots).append(row)
            step = a_step(window, keys, sums)
            highs = sorted({row[2][len(keys) + 1] for row in marked(step, filled(step, rows), END)[1]})
            for mark in {0, END} | {high + more for high in highs[:4] for more in (-1, 0, 1)}:
                awaited = list(marked(step, filled(step, rows), mark)[1]) if mark else []
                self.assertEqual(finish_rows(lots, keys, window, sums, COLUMNS, mark), sorted(awaited, key=lambda row: (row[0], ranks(row[2]))))
                query = (("s", ("source", COLUMNS)), ("x", ("sum", "s") + step[2:]), ("out", "x"))
                part = tuple(("row",) + row for row in rows) + (("mark", mark),)
                found = finish_rows(lots, keys, window, sums, COLUMNS, mark)
                self.assertEqual({row: found.count(row) for row in found}, meaning(query, {"s": (part,)}))

    def test_any_sequence_of_lots_and_rows(self):
        for lots in itertools.permutations(self.LOTS[:3]):
            self.assertEqual(finish_rows([lot[::-1] for lot in lots], ("k",), ("even", 10), SUMS, COLUMNS, 20),
                             finish_rows(self.LOTS, ("k",), ("even", 10), SUMS, COLUMNS, 20))


if __name__ == "__main__":
    unittest.main()
