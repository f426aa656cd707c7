import collections
import itertools
import unittest

from oncestream.errors import BadInput
from oncestream.joins import (all_pairs, do_meet, fresh, is_state, join_of, joined, joined_columns, judge_pairs, key_of, marked, pair,
                              put, split, woven)
from oncestream.marks import END
from oncestream.meaning import meaning
from oncestream.queries import columns_of
from oncestream.values import ranks
from tests.makers import ANYTHING, a_draw, exchanged, within
from tests.test_graphs import plain_group
from tests.untouched import looked_at
from tests.weaving import a_row, lots_of_groups, woven_in

LEFT = (("who", "text"), ("n", "number"))
RIGHT = (("n", "number"), ("what", "text"), ("who", "text"))
JOIN = join_of(LEFT, RIGHT, ("who",), 2, 5)
BARE = join_of(LEFT, RIGHT, (), 2, 5)
BOTH = join_of(LEFT, RIGHT, ("n", "who"), 0, 3)
ALL = tuple(range(16))
ONE, TWO = (10, 1, ("x", 3)), (15, -1, (7, "tea", "x"))


def order(row):
    return (row[0], row[1], ranks(row[2]))


def state_order(join, side):
    return lambda entry: (ranks(tuple(entry[0][2][place] for place in join[side])), order(entry[0]))


def plain_state(join, rows, mark=0):
    """The state of pairs (side, row) that have come, none of them dropped."""
    sides = [collections.Counter(row for other, row in rows if other == side) for side in (0, 1)]
    return (mark,) + tuple(tuple(sorted(sides[side].items(), key=state_order(join, side))) for side in (0, 1))


def plain_pairs(keys, back, ahead, lefts, rights):
    """All pairs by the names of the columns, straight from the document."""
    found = []
    for one in lefts:
        for other in rights:
            left, right = dict(zip([name for name, _ in LEFT], one[2])), dict(zip([name for name, _ in RIGHT], other[2]))
            if all(left[key] == right[key] for key in keys) and one[0] - back <= other[0] <= one[0] + ahead:
                rest = tuple(right[name] for name, _ in RIGHT if name not in keys)
                found.append((max(one[0], other[0]), one[1] * other[1], one[2] + rest))
    return sorted(found, key=order)


def side_row(draw, side, low, span=8):
    return a_row(draw, LEFT if side == 0 else RIGHT, low, span)


def fitting(draw, most):
    """Things that fit: two sides and marks that do not fall, no row below a mark ahead of it."""
    things, mark = [], 0
    for _ in range(draw.randint(0, most)):
        if draw.random() < 0.2:
            mark += draw.choice((0, 1, 2, 5))
            things.append(("mark", mark))
        else:
            side = draw.choice((0, 1))
            things.append(("row", side, side_row(draw, side, mark, 7)))
    return things


def a_join(draw):
    keys = draw.choice(((), ("who",), ("n", "who"), ("n",)))
    back, ahead = draw.choice(((0, 0), (2, 5), (0, 3), (4, 0), (10 ** 9, 0), (1, 1)))
    return keys, back, ahead, join_of(LEFT, RIGHT, keys, back, ahead)


def without(left):
    """Right's columns without the names that left has, the keys apart, as a query asks of a join."""
    return tuple((name if name == "who" else name + "r", kind) for name, kind in left)


class Forms(unittest.TestCase):
    def test_join_of(self):
        for keys, awaited in (((), ((), (), (0, 1, 2))), (("who",), ((0,), (2,), (0, 1))), (("n",), ((1,), (0,), (1, 2))), (("n", "who"), ((1, 0), (0, 2), (1,))),
                              (("who", "n"), ((0, 1), (2, 0), (1,)))):
            self.assertEqual(looked_at(self, join_of, LEFT, RIGHT, keys, 2, 5), awaited + (2, 5))
        self.assertEqual(join_of(LEFT, LEFT, ("n", "who"), 0, 10 ** 9), ((1, 0), (1, 0), (), 0, 10 ** 9))
        self.assertEqual(join_of((), (), (), 0, 0), ((), (), (), 0, 0))
        self.assertEqual(join_of((), RIGHT, (), 3, 0), ((), (), (0, 1, 2), 3, 0))

    def test_joined_columns(self):
        what, number, who = RIGHT[1], RIGHT[0], RIGHT[2]
        for keys, rest in (((), RIGHT), (("who",), (number, what)), (("n", "who"), (what,)), (("who", "n"), (what,)), (("n",), (what, who))):
            self.assertEqual(looked_at(self, joined_columns, LEFT, RIGHT, keys), LEFT + rest)
        self.assertEqual(joined_columns((), (), ()), ())

    def test_joined_columns_are_those_of_the_step(self):
        right = without(RIGHT)
        query = (("a", ("source", LEFT)), ("b", ("source", right)), ("x", ("join", "a", "b", ("who",), 0, 0)), ("out", "x"))
        self.assertEqual(joined_columns(LEFT, right, ("who",)), columns_of(query, "x"))

    def test_key_of(self):
        for join, left, right in ((JOIN, ("x",), ("y",)), (BARE, (), ()), (BOTH, (3, "x"), (7, "y"))):
            self.assertEqual(looked_at(self, key_of, join, 0, ("x", 3)), left)
            self.assertEqual(looked_at(self, key_of, join, 1, (7, "tea", "y")), right)
        self.assertEqual(key_of(JOIN, 0, (None, 3)), (None,))


class Meet(unittest.TestCase):
    def test_times(self):
        for back, ahead in ((2, 5), (0, 0), (0, 3), (4, 0), (10 ** 9, 10 ** 9)):
            join = join_of(LEFT, RIGHT, ("who",), back, ahead)
            for t in (0, 10, 2 * 10 ** 9):
                for u in {0, t - back - 1, t - back, t - 1, t, t + 1, t + ahead, t + ahead + 1}:
                    if u >= 0:
                        self.assertIs(do_meet(join, (t, 1, ("x", 3)), (u, -1, (7, "tea", "x"))), t - back <= u <= t + ahead, (back, ahead, t, u))

    def test_keys(self):
        for one, other, awaited in (("x", "x", True), ("x", "y", False), (None, None, True), (None, "", False), ("", None, False), ("x", None, False)):
            self.assertIs(do_meet(JOIN, (10, 1, (one, 3)), (10, 1, (3, "tea", other))), awaited)
        for one, other, awaited in ((("x", 3), (3, "x"), True), (("x", 3), (4, "x"), False), (("x", 3), (3, "y"), False), (("x", None), (None, "x"), True),
                                    (("x", None), (0, "x"), False)):
            self.assertIs(do_meet(BOTH, (10, 1, one), (10, 1, (other[0], "tea", other[1]))), awaited)
        self.assertIs(do_meet(BARE, (10, 1, ("x", 3)), (10, 1, (None, None, "y"))), True)

    def test_pair(self):
        for t, u, one, other in itertools.product((3, 10), (3, 10), (1, -1), (1, -1)):
            self.assertEqual(pair(JOIN, (t, one, ("x", 3)), (u, other, (7, "tea", "x"))), (max(t, u), one * other, ("x", 3, 7, "tea")))
        self.assertEqual(looked_at(self, pair, BARE, ONE, TWO), (15, -1, ("x", 3, 7, "tea", "x")))
        self.assertEqual(pair(BOTH, (1, 1, (None, 3)), (2, 1, (3, None, None))), (2, 1, (None, 3, None)))
        # Also of rows that do not meet.
        self.assertEqual(pair(JOIN, (0, -1, ("x", 3)), (99, -1, (7, "tea", "y"))), (99, 1, ("x", 3, 7, "tea")))


class Put(unittest.TestCase):
    def test_fresh(self):
        self.assertEqual(looked_at(self, fresh), (0, (), ()))

    def test_a_row_that_comes_twice_and_more(self):
        state = fresh()
        for n in (1, 2, 3):
            state, rows = looked_at(self, put, JOIN, state, 0, ONE)
            self.assertEqual((state, rows), ((0, ((ONE, n),), ()), []))
        state, rows = looked_at(self, put, JOIN, state, 1, TWO)
        self.assertEqual((state, rows), ((0, ((ONE, 3),), ((TWO, 1),)), [(15, -1, ("x", 3, 7, "tea"))] * 3))
        self.assertEqual(put(JOIN, state, 1, TWO), ((0, ((ONE, 3),), ((TWO, 2),)), [(15, -1, ("x", 3, 7, "tea"))] * 3))
        self.assertEqual(put(JOIN, state, 0, ONE)[1], [(15, -1, ("x", 3, 7, "tea"))])

    def test_rows_of_both_signs_stand_apart(self):
        back = (10, -1, ("x", 3))
        state = put(JOIN, put(JOIN, fresh(), 0, ONE)[0], 0, back)[0]
        self.assertEqual(state, (0, ((back, 1), (ONE, 1)), ()))
        self.assertEqual(put(JOIN, state, 1, TWO)[1], [(15, -1, ("x", 3, 7, "tea")), (15, 1, ("x", 3, 7, "tea"))])

    def test_rows_made_ascend(self):
        state = fresh()
        rights = [(12, 1, (None, "b", "x")), (12, 1, (5, None, "x")), (9, 1, (5, "a", "x")), (8, -1, (5, "a", "x")), (12, -1, (10, "a", "x")), (12, 1, (9, "a", "x")),
                  (12, 1, ("", "a", "x")), (15, 1, (1, "a", "x")), (16, 1, (1, "a", "x")), (7, 1, (1, "a", "x")), (12, 1, (5, "a", "y"))]
        for row in rights:
            state = put(JOIN, state, 1, row)[0]
        made = put(JOIN, state, 0, ONE)[1]
        self.assertEqual(made, plain_pairs(("who",), 2, 5, [ONE], rights))
        self.assertEqual(len(made), 8)

    def test_states_ascend_by_key_time_sign_and_values(self):
        draw = a_draw(91)
        for _ in range(60):
            join = a_join(draw)[3]
            rows = [(side, side_row(draw, side, 0)) for side in (draw.choice((0, 1)) for _ in range(20))]
            rows = rows + rows[:5]
            state = fresh()
            for side, row in rows:
                state = put(join, state, side, row)[0]
            self.assertEqual(state, plain_state(join, rows))
            self.assertIs(is_state(join, state), True)

    def test_the_order_of_a_side(self):
        rows = [(5, 1, (None, 9)), (1, -1, ("", 3)), (0, 1, ("x", 5)), (3, -1, ("x", 1)), (3, 1, ("x", None)), (3, 1, ("x", 9)), (3, 1, ("x", 10)), (0, 1, ("y", 0))]
        for some in (rows, rows[::-1], rows[3:] + rows[:3]):
            state = fresh()
            for row in some:
                state = put(JOIN, state, 0, row)[0]
            self.assertEqual(state, (0, tuple((row, 1) for row in rows), ()))

    def test_put_does_not_look_at_the_mark(self):
        state = marked(JOIN, put(JOIN, fresh(), 0, ONE)[0], 12)[0]
        self.assertEqual(put(JOIN, state, 1, (8, 1, (7, "tea", "x")))[1], [(10, 1, ("x", 3, 7, "tea"))])


class Marked(unittest.TestCase):
    def test_what_just_stays_and_what_is_just_dropped(self):
        left, right = (10, 1, ("x", 3)), (10, -1, (7, "tea", "x"))
        state = put(JOIN, put(JOIN, fresh(), 0, left)[0], 1, right)[0]
        # JOIN has back 2 and ahead 5: left waits up to 15, right up to 12.
        for mark, stay in ((0, (True, True)), (10, (True, True)), (12, (True, True)), (13, (True, False)), (15, (True, False)), (16, (False, False))):
            awaited = (mark, ((left, 1),) if stay[0] else (), ((right, 1),) if stay[1] else ())
            self.assertEqual(looked_at(self, marked, JOIN, state, mark), (awaited, []))

    def test_end(self):
        join = join_of(LEFT, RIGHT, ("who",), 10 ** 9, 10 ** 9)
        state = put(join, put(join, fresh(), 0, (2 * 10 ** 9, 1, ("x", 3)))[0], 1, (10 ** 9, 1, (7, "tea", "x")))[0]
        self.assertEqual(marked(join, state, END - 1)[0], (END - 1,) + state[1:])
        self.assertEqual(marked(join, state, END), ((END, (), ()), []))

    def test_the_same_mark_again(self):
        state = marked(JOIN, put(JOIN, fresh(), 0, ONE)[0], 12)[0]
        self.assertEqual(marked(JOIN, state, 12), (state, []))
        self.assertEqual(marked(JOIN, fresh(), 0), (fresh(), []))

    def test_nothing_too_early_and_nothing_in_vain(self):
        for back, ahead, mark in itertools.product((0, 1, 4), (0, 2, 3), (1, 5, 9)):
            join = join_of(LEFT, RIGHT, ("who",), back, ahead)
            for time in range(14):
                one, other = (time, 1, ("x", 3)), (time, 1, (7, "tea", "x"))
                left = marked(join, put(join, fresh(), 0, one)[0], mark)[0][1]
                right = marked(join, put(join, fresh(), 1, other)[0], mark)[0][2]
                self.assertEqual(left != (), any(do_meet(join, one, (u, 1, (0, "", "x"))) for u in range(mark, 40)))
                self.assertEqual(right != (), any(do_meet(join, (t, 1, ("x", 0)), other) for t in range(mark, 40)))


class IsState(unittest.TestCase):
    LEFTS = (((1, 1, ("", 0)), 1), ((5, -1, ("x", 3)), 2), ((5, 1, ("x", None)), 1))
    RIGHTS = (((9, 1, (0, "b", None)), 10 ** 59), ((0, 1, (3, "a", "x")), 1))

    def right(self, *values):
        for value in values:
            self.assertIs(looked_at(self, is_state, JOIN, value), True, value)

    def wrong(self, *values):
        for value in values:
            self.assertIs(looked_at(self, is_state, JOIN, value), False, value)

    def test_right_ones(self):
        self.right((0, (), ()), (END, (), ()), (3, self.LEFTS, self.RIGHTS), (END, self.LEFTS, self.RIGHTS), (0, self.LEFTS[1:], ()), (0, (), self.RIGHTS[:1]))
        self.right((0, (((10 ** 59, 1, ("x", 3)), 1),), ()), (0, (((0, 1, (3, "x")), 1),), ()))
        # As many values as the places ask at least.
        self.right((0, (((0, 1, ("x",)), 1),), ()), (0, (((0, 1, ("x", 1, 2, 3)), 1),), ()), (0, (), (((0, 1, (1, 2, 3, 4)), 1),)))
        self.wrong((0, (((0, 1, ()), 1),), ()), (0, (), (((0, 1, (1, 2)), 1),)), (0, (), (((0, 1, ()), 1),)))
        bare = join_of((), (), (), 0, 0)
        self.assertIs(is_state(bare, (0, (((0, 1, ()), 1),), (((0, 1, ()), 1),))), True)
        rest = join_of(LEFT, (("who", "text"), ("n", "number"), ("m", "number")), ("who", "n"), 0, 0)
        self.assertEqual([is_state(rest, (0, (), (((0, 1, (1, 2, 3)[:many]), 1),))) for many in range(4)], [False, False, False, True])

    def test_marks_and_forms(self):
        self.wrong((True, (), ()), (False, (), ()), (None, (), ()), (-1, (), ()), (END + 1, (), ()), ("0", (), ()), (0, ()), (0,), (), (0, (), (), ()), [0, (), ()],
                   (0, [], ()), (0, (), []), (0, None, ()), (0, (), None), (0, {}, ()), None, 0, "", {}, within(30), (0, self.RIGHTS, self.LEFTS))
        for value in ANYTHING:
            self.assertIs(is_state(JOIN, value), False, value)
            self.wrong((0, (value,), ()), (0, (), (value,)), (0, ((value, 1),), ()), (value, self.LEFTS, True))
            self.assertIs(is_state(JOIN, (0, value, ())), value == (), value)
            is_many = isinstance(value, int) and not isinstance(value, bool) and value > 0
            self.assertIs(is_state(JOIN, (0, ((ONE, value),), ())), is_many, value)

    def test_rows_and_numbers(self):
        for row in ((-1, 1, ("x", 3)), (True, 1, ("x", 3)), (None, 1, ("x", 3)), ("0", 1, ("x", 3)), (0, 0, ("x", 3)), (0, 2, ("x", 3)), (0, True, ("x", 3)), (0, None, ("x", 3)),
                    (0, 1, ["x", 3]), (0, 1, ("x", True)), (0, 1, ("a.b", 3)), (0, 1, ("a" * 13, 3)), (0, 1, ("x", (3,))), (0, 1, ("x", 3), 0), (0, 1), [0, 1, ("x", 3)], (0, 1, "x"),
                    (0, 1, None), (), None):
            self.wrong((0, ((row, 1),), ()))
        for n in (0, -1, True, None, "1", (1,), [1]):
            self.wrong((0, ((ONE, n),), ()), (0, (), ((TWO, n),)))
        for entry in ((ONE,), (ONE, 1, 1), [ONE, 1], ONE, (1, ONE)):
            self.wrong((0, (entry,), ()))

    def test_the_order(self):
        for many in (2, 3):
            for some in itertools.permutations(self.LEFTS, many):
                awaited = list(some) == [entry for entry in self.LEFTS if entry in some]
                self.assertIs(is_state(JOIN, (0, some, ())), awaited)
        self.wrong((0, (), self.RIGHTS[::-1]), (0, ((ONE, 1), (ONE, 1)), ()), (0, ((ONE, 1), (ONE, 2)), ()), (0, (), ((TWO, 1), (TWO, 1))))
        # By the key ahead of the time, and by the numbers of values as numbers.
        self.right((0, (((9, 1, ("a", 3)), 1), ((0, 1, ("b", 3)), 1)), ()), (0, (((1, 1, ("x", 9)), 1), ((1, 1, ("x", 10)), 1)), ()))
        self.wrong((0, (((0, 1, ("b", 3)), 1), ((9, 1, ("a", 3)), 1)), ()), (0, (((1, 1, ("x", "")), 1), ((1, 1, ("x", 10)), 1)), ()))

    def test_one_thing_exchanged(self):
        state = (3, self.LEFTS, self.RIGHTS)
        for value in exchanged(state, lambda thing: [True, [thing], {}, "!"] + ([list(thing)] if isinstance(thing, tuple) else [])):
            self.assertIs(is_state(JOIN, value), False, value)


class Woven(unittest.TestCase):
    def test_told_things(self):
        things = [("row", 1, TWO), ("mark", 9), ("row", 0, ONE), ("row", 0, ONE), ("mark", 30)]
        made = [(15, -1, ("x", 3, 7, "tea"))] * 2
        self.assertEqual(looked_at(self, woven, JOIN, things), ((30, (), ()), made))
        self.assertEqual(looked_at(self, all_pairs, JOIN, things), made)
        self.assertEqual((woven(JOIN, tuple(things)), all_pairs(JOIN, tuple(things))), (((30, (), ()), made), made))
        self.assertEqual((woven(JOIN, []), all_pairs(JOIN, []), woven(JOIN, [("mark", END)])), ((fresh(), []), [], ((END, (), ()), [])))

    def test_all_pairs_do_not_look_at_marks(self):
        things = [("row", 1, TWO), ("mark", 99), ("mark", 5), ("row", 0, ONE)]
        self.assertEqual(all_pairs(JOIN, things), [(15, -1, ("x", 3, 7, "tea"))])

    def test_things_that_fit(self):
        draw = a_draw(92)
        for _ in range(150):
            keys, back, ahead, join = a_join(draw)
            things = fitting(draw, 24)
            rows = [[thing[2] for thing in things if thing[:2] == ("row", side)] for side in (0, 1)]
            awaited = plain_pairs(keys, back, ahead, *rows)
            state, made = woven(join, things)
            self.assertEqual(all_pairs(join, things), awaited)
            self.assertEqual(sorted(made, key=order), awaited)
            self.assertIsNone(judge_pairs(join, things, made))
            self.assertIs(is_state(join, state), True)

    def test_each_row_made_is_from_the_last_mark_on(self):
        draw = a_draw(93)
        for _ in range(80):
            join, state, mark = a_join(draw)[3], fresh(), 0
            for thing in fitting(draw, 30):
                if thing[0] == "mark":
                    mark = thing[1]
                    state = marked(join, state, mark)[0]
                else:
                    state, rows = put(join, state, thing[1], thing[2])
                    self.assertTrue(all(row[0] >= mark for row in rows))
                    self.assertEqual(rows, sorted(rows, key=order))

    def test_any_weaving(self):
        """Two inputs woven anyhow, marked whenever the least mark rises: the same pairs, and the same state at the end."""
        draw = a_draw(94)
        for _ in range(80):
            join = a_join(draw)[3]
            sides = [[thing if thing[0] == "mark" else ("row", side, thing[2]) for thing in fitting(draw, 12) if thing[0] == "mark" or thing[1] == side] for side in (0, 1)]
            found = []
            for _ in range(3):
                marks, things = [0, 0], []
                for side, thing in woven_in(draw, sides):
                    if thing[0] == "row":
                        things.append(thing)
                    else:
                        marks[side] = thing[1]
                        things.append(("mark", min(marks)))
                state, made = woven(join, things)
                found.append((state, sorted(made, key=order)))
                self.assertEqual(found[-1][1], all_pairs(join, things))
            self.assertTrue(found[0] == found[1] == found[2])

    def test_the_plain_meaning_of_a_join(self):
        draw, right = a_draw(95), without(LEFT)
        for _ in range(60):
            back, ahead = draw.choice(((0, 0), (2, 5), (4, 0)))
            query = (("a", ("source", LEFT)), ("b", ("source", right)), ("x", ("join", "a", "b", ("who",), back, ahead)), ("out", "x"))
            join = join_of(LEFT, right, ("who",), back, ahead)
            things = [("row", side, a_row(draw, LEFT, 0, 12)) for side in (draw.choice((0, 1)) for _ in range(14))]
            parts = {name: (tuple(("row",) + thing[2] for thing in things if thing[1] == side),) for side, name in enumerate("ab")}
            made = woven(join, things)[1]
            self.assertEqual(dict(collections.Counter(made)), meaning(query, parts))


class Judge(unittest.TestCase):
    THINGS = [("row", 0, (10, 1, ("x", 3))), ("row", 1, (12, 1, (7, "tea", "x"))), ("row", 1, (11, 1, (7, "tea", "x"))), ("row", 0, (10, 1, ("x", 3)))]
    A, B, C = (11, 1, ("x", 3, 7, "tea")), (12, 1, ("x", 3, 7, "tea")), (12, 1, ("x", 3, 8, "tea"))

    def judged(self, value):
        found = looked_at(self, judge_pairs, JOIN, self.THINGS, value)
        self.assertEqual(judge_pairs(JOIN, tuple(self.THINGS), value), found)
        return found

    def test_right_in_any_sequence(self):
        self.assertEqual(all_pairs(JOIN, self.THINGS), [self.A, self.A, self.B, self.B])
        for value in set(itertools.permutations((self.A, self.A, self.B, self.B))):
            self.assertIsNone(self.judged(list(value)))
            self.assertEqual(self.judged(value), ("form",))
        self.assertIsNone(judge_pairs(JOIN, [], []))

    def test_spare(self):
        a, b, c = self.A, self.B, self.C
        for value, row in (([a, a, b, b, c], c), ([c, a, a, a], c), ([a, c, a, a], a), ([b, b, a, b, c], b), ([b, c, b, a, a, a], c), ([c], c), ([b, a, a, a, b, b], b),
                           ([a, a, b, (12, -1, b[2])], (12, -1, b[2])), ([(0, 1, ())], (0, 1, ())), ([(10 ** 59, -1, (None,))], (10 ** 59, -1, (None,)))):
            self.assertEqual(self.judged(value), ("spare", row))
        self.assertEqual(judge_pairs(JOIN, [], [a]), ("spare", a))

    def test_lacks(self):
        a, b = self.A, self.B
        for value, row in (([], a), ([a], a), ([b, b], a), ([a, a], b), ([a, b, a], b), ([b, a, b], a)):
            self.assertEqual(self.judged(value), ("lacks", row))

    def test_each_fault_with_a_later_one_behind_it(self):
        a, b, c = self.A, self.B, self.C
        self.assertEqual(self.judged([c, a, a, a, None]), ("form",))
        self.assertEqual(self.judged([b, c, a]), ("spare", c))
        self.assertEqual(self.judged([b, a]), ("lacks", a))

    def test_forms(self):
        for value in ((), (self.A,), None, 0, True, "", {}, {self.A: 1}, [None], [()], [[11, 1, ()]], [(11, 1)], [(11, 1, (), 0)], [(-1, 1, ())], [(True, 1, ())], [(11, True, ())],
                      [(11, 0, ())], [(11, 2, ())], [(11, None, ())], [("11", 1, ())], [(11, 1, [])], [(11, 1, (True,))], [(11, 1, ("a.b",))], [(11, 1, ((),))], [(11, 1, None)],
                      [self.A, self.A, self.B, list(self.B)], [within(29)], within(30), [[]], [{}]):
            self.assertEqual(self.judged(value), ("form",), value)
        for value in ANYTHING:
            self.assertEqual(judge_pairs(JOIN, self.THINGS, value), ("lacks", self.A) if value == [] and isinstance(value, list) else ("form",), value)
            self.assertEqual(judge_pairs(JOIN, self.THINGS, [value]), ("form",))

    def test_of_many(self):
        draw = a_draw(96)
        for _ in range(150):
            join, things = a_join(draw)[3], fitting(draw, 12)
            right = all_pairs(join, things)
            value = right[:]
            draw.shuffle(value)
            for _ in range(draw.randint(0, 3)):
                if value and draw.random() < 0.5:
                    value.pop(draw.randrange(len(value)))
                elif value and draw.random() < 0.5:
                    value.insert(draw.randrange(len(value)), draw.choice(value))
                else:
                    value.append((draw.randint(0, 9), 1, (1, 2)))
            awaited = next((("spare", row) for row in value if value.count(row) > right.count(row)), None)
            awaited = awaited or next((("lacks", row) for row in right if value.count(row) < right.count(row)), None)
            self.assertEqual(judge_pairs(join, things, value), awaited)


class Groups(unittest.TestCase):
    def some_states(self, seed, times=40):
        draw = a_draw(seed)
        for _ in range(times):
            join = a_join(draw)[3]
            yield draw, join, woven(join, fitting(draw, 24))[0]

    def test_split_and_joined(self):
        for draw, join, state in self.some_states(97):
            for many in (1, 2, 4):
                parts = [looked_at(self, split, join, state, groups) for groups in lots_of_groups(draw, many)]
                draw.shuffle(parts)
                self.assertEqual(looked_at(self, joined, join, parts), state)
                self.assertEqual(joined(join, tuple(parts)), state)
            self.assertEqual((split(join, state, ()), split(join, state, ALL)), ((state[0], (), ()), state))
            for g in ALL:
                awaited = tuple(tuple(entry for entry in state[side + 1] if plain_group(key_of(join, side, entry[0][2])) == g) for side in (0, 1))
                self.assertEqual(split(join, state, (g,)), (state[0],) + awaited)

    def test_rows_in_more_than_one_state(self):
        one = (4, ((ONE, 2),), ((TWO, 1),))
        other = (4, (((9, 1, ("x", 3)), 1), (ONE, 3)), ())
        self.assertEqual(joined(JOIN, [one, other, one]), (4, (((9, 1, ("x", 3)), 1), (ONE, 7)), ((TWO, 2),)))
        self.assertEqual(joined(JOIN, [one]), one)

    def test_joined_is_the_state_of_all_rows(self):
        draw = a_draw(98)
        for _ in range(40):
            join = a_join(draw)[3]
            rows = [(side, side_row(draw, side, 0, 4)) for side in (draw.choice((0, 1)) for _ in range(16))]
            lots = [[], [], []]
            for row in rows:
                draw.choice(lots).append(row)
            self.assertEqual(joined(join, [plain_state(join, lot, 3) for lot in lots]), plain_state(join, rows, 3))

    def test_unlike_marks(self):
        for marks, place in (((1, 2), 1), ((1, 1, 2), 2), ((1, 2, 3, 1), 1), ((0, 0, 0, 5, 6), 3), ((5, 0), 1), ((END, 0), 1)):
            states = [(mark, (), ()) for mark in marks]
            with self.assertRaises(BadInput) as caught:
                joined(JOIN, states)
            self.assertEqual((caught.exception.place, states), (place, [(mark, (), ()) for mark in marks]))

    def test_parts_go_on_as_the_whole(self):
        for draw, join, state in self.some_states(99):
            lots = lots_of_groups(draw, 3)
            parts, mark = [split(join, state, groups) for groups in lots], state[0]
            for _ in range(14):
                if draw.random() < 0.25:
                    mark += draw.randint(0, 5)
                    state, parts = marked(join, state, mark)[0], [marked(join, part, mark)[0] for part in parts]
                else:
                    side = draw.choice((0, 1))
                    row = side_row(draw, side, mark)
                    at = [plain_group(key_of(join, side, row[2])) in groups for groups in lots].index(True)
                    state, rows = put(join, state, side, row)
                    parts[at], some = put(join, parts[at], side, row)
                    self.assertEqual(rows, some)
                self.assertEqual(joined(join, parts), state)
                self.assertEqual([split(join, state, groups) for groups in lots], parts)


if __name__ == "__main__":
    unittest.main()
