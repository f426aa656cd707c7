import copy
import unittest

from oncestream.bags import is_part
from oncestream.meaning import (
    END, all_late, cut, input_fault, is_further, lots_of, marks_of, meaning, places_of, rows_with_lots, whole,
)
from oncestream.queries import columns_of, judge_query, sources_of
from tests import plainly
from tests.makers import ANYTHING, a_draw, a_query, an_input, exchanged, within

S = ("s", ("source", (("k", "text"), ("n", "number"))))
T = ("t", ("source", (("k", "text"), ("m", "number"))))
N = ("column", "n")


def row(time, key, n, sign=1):
    return ("row", time, sign, (key, n))


def mark(m):
    return ("mark", m)


def over(step, *more):
    """The query that gives out a step called x over s and t."""
    return (S, T) + more + (("x", step), ("out", "x"))


def given(query, *parts, t=()):
    """The rows that a query gives out for these parts of s."""
    return [pair[0] for pair in rows_with_lots(query, {"s": parts, "t": t})]


class Inputs(unittest.TestCase):
    QUERY = (T, ("a", ("source", ())), S, ("out", "s"))
    RIGHT = {"t": (), "a": ((),), "s": ((row(0, "a", 1), mark(0)), (mark(END), row(10 ** 8, None, None, -1)))}

    def check(self, value, awaited):
        before = copy.deepcopy(value)
        self.assertEqual(input_fault(self.QUERY, value), awaited, value)
        self.assertEqual(value, before)

    def with_parts(self, **parts):
        return {**self.RIGHT, **parts}

    def test_right_ones(self):
        self.check(self.RIGHT, None)
        self.check({"s": (), "t": (), "a": ()}, None)
        self.check(self.with_parts(a=((("row", 5, 1, ()),),)), None)
        self.assertIsNone(input_fault((S, ("out", "s")), {"s": ()}))

    def test_forms(self):
        for value in (None, True, [], (), "s", {}, {"s": (), "t": ()}, {"s": (), "t": (), "a": (), "b": ()},
                      {"s": (), "t": (), "b": ()}, {"s": (), "t": (), 1: ()}, {"s": (), "t": (), ("a",): ()},
                      {"s": [], "t": 5}, tuple(self.RIGHT.items())):
            self.check(value, ("form",))

    def test_parts(self):
        for wrong in (None, 5, "", [], {}, [()], ([],), ((), []), ((), None), (5,), (row(0, "a", 1), {}), True, ("ab",)):
            self.check(self.with_parts(s=wrong), ("parts", "s"))
            self.check(self.with_parts(t=wrong, s=wrong), ("parts", "t"))
            self.check(self.with_parts(a=wrong, s=wrong), ("parts", "a"))
            self.check(self.with_parts(t=((5,),), s=wrong), ("parts", "s"))

    def test_entries(self):
        right = row(3, "a", 1)
        for wrong in (None, 5, "mark", (), ("mark",), ("mark", -1), ("mark", END + 1), ("mark", True), ("mark", 5, 5),
                      ("mark", None), ("mark", "5"), ["mark", 5], ("Mark", 5), (5, "mark"), row(-1, "a", 1), row(10 ** 8 + 1, "a", 1),
                      row(True, "a", 1), row(3, "a", 1, 0), row(3, "a", 1, 2), row(3, "a", 1, True), row(3, 1, 1), row(3, "a", "b"),
                      row(3, "a", True), row(3, "a.b", 1), row(3, "a" * 13, 1), ("row", 3, 1), ("row", 3, 1, ("a", 1), 5),
                      ("row", 3, 1, ("a",)), ("row", 3, 1, ("a", 1, 1)), ("row", 3, 1, ["a", 1]), list(right), ("row",),
                      (["row"], 3, 1, ("a", 1)), (3, 1, ("a", 1)), ("barrier", 1), {}, within(20)):
            self.check(self.with_parts(s=((wrong,),)), ("entry", "s", 0, 0))
            self.check(self.with_parts(s=((), (right, mark(5), wrong, wrong), (wrong,))), ("entry", "s", 1, 2))
            self.check(self.with_parts(t=((), (wrong,)), s=((wrong,),)), ("entry", "t", 1, 0))
        self.check(self.with_parts(a=((("row", 5, 1, (None,)),),)), ("entry", "a", 0, 0))
        for value in (mark(0), mark(END), row(0, "", 0), row(10 ** 8, None, 10 ** 59, -1)):
            self.check(self.with_parts(s=((value,),)), None)

    def test_anything_in_each_place(self):
        parts = ((row(3, "a", 1), mark(5)),)
        for value in ANYTHING + (within(30),):
            self.assertEqual(input_fault((S, ("out", "s")), value), ("form",))
            for wrong in exchanged(parts, lambda _: [value]):
                self.assertIn(input_fault((S, ("out", "s")), {"s": wrong}),
                              (None, ("parts", "s"), ("entry", "s", 0, 0), ("entry", "s", 0, 1)))


class Places(unittest.TestCase):
    FED = {"s": ((row(1, "a", 1), mark(2), row(3, "b", 1)), (), (mark(5),)), "t": ()}

    def test_places_of(self):
        self.assertEqual(places_of(self.FED), {("s", 0): 3, ("s", 1): 0, ("s", 2): 1})
        self.assertEqual((places_of({"s": ()}), places_of({"s": ((), ())})), ({}, {("s", 0): 0, ("s", 1): 0}))

    def test_cut(self):
        before = copy.deepcopy(self.FED)
        self.assertEqual(cut(self.FED, places_of(self.FED)), self.FED)
        self.assertEqual(cut(self.FED, {("s", 0): 2, ("s", 1): 0, ("s", 2): 0}),
                         {"s": ((row(1, "a", 1), mark(2)), (), ()), "t": ()})
        cut(self.FED, places_of(self.FED))["u"] = ()
        self.assertEqual(self.FED, before)

    def test_is_further(self):
        for one, other, awaited in (((1, 1), (1, 1), True), ((1, 1), (1, 2), True), ((1, 1), (2, 0), False), ((0, 0), (5, 5), True),
                                    ((1, 1), (0, 0), False)):
            places, others = ({("s", k): number for k, number in enumerate(numbers)} for numbers in (one, other))
            self.assertIs(is_further(places, others), awaited)
        self.assertIs(is_further({}, {}), True)


class Marks(unittest.TestCase):
    QUERY = (S, T, ("k", ("keep", "s", N)), ("j", ("join", "k", "t", ("k",), 0, 0)), ("b", ("both", "s", "s")), ("out", "b"))

    def test_marks(self):
        for s, t, awaited in (
            ((), (), (END,) * 5), (((),), (), (0, END, 0, 0, 0)), (((mark(5),),), (), (5, END, 5, 5, 5)),
            (((mark(5), mark(3)), (mark(0), mark(7))), ((mark(4),),), (5, 4, 5, 4, 5)),
            (((mark(5),), ()), ((mark(4),),), (0, 4, 0, 0, 0)), (((mark(END),),), ((mark(4), row(1, "a", 1)),), (END, 4, END, 4, END)),
            (((row(50, "a", 1),),), ((mark(0),),), (0, 0, 0, 0, 0)),
        ):
            self.assertEqual(marks_of(self.QUERY, {"s": s, "t": t}), dict(zip("stkjb", awaited)))

    def test_late_rows(self):
        part = (row(4, "a", 1), mark(5), row(4, "a", 1), row(5, "a", 1), mark(3), row(4, "b", 1), mark(9), row(8, "a", 1), row(9, "a", 1))
        self.assertEqual(all_late({"s": (part,)}), [("s", 0, 2), ("s", 0, 5), ("s", 0, 7)])
        self.assertEqual(all_late({"s": ((mark(9),), (row(1, "a", 1),))}), [])
        self.assertEqual(all_late({"s": (), "t": ()}), [])
        late = (mark(1), row(0, "a", 1))
        self.assertEqual(all_late({"t": ((), late), "s": (late, late)}), [("s", 0, 1), ("s", 1, 1), ("t", 1, 1)])
        self.assertEqual(all_late({"s": ((mark(END), row(10 ** 8, "a", 1)), (mark(0), row(0, "a", 1)))}), [("s", 0, 1)])

    def test_a_row_is_late_in_its_own_part_alone(self):
        query = (S, ("out", "s"))
        fed = {"s": ((mark(9), row(4, "a", 1), row(9, "b", 1)), (row(4, "a", 1), mark(4), row(4, "c", 1), row(3, "d", 1)))}
        self.assertEqual(rows_with_lots(query, fed), [
            ((4, 1, ("a", 1)), (("s", 1, 0),)), ((4, 1, ("c", 1)), (("s", 1, 2),)), ((9, 1, ("b", 1)), (("s", 0, 2),))])


class Steps(unittest.TestCase):
    def test_keep_and_make(self):
        part = (row(5, "a", 0), row(4, None, None, -1), row(3, "b", -2))
        self.assertEqual(given(over(("keep", "s", N)), part), [(3, 1, ("b", -2))])
        self.assertEqual(given(over(("make", "s", (("x", ("plus", N, ("value", 1))), ("y", ("column", "k"))))), part),
                         [(3, 1, (-1, "b")), (4, -1, (None, None)), (5, 1, (1, "a"))])
        self.assertEqual(given(over(("make", "s", ())), part), [(3, 1, ()), (4, -1, ()), (5, 1, ())])

    def test_both(self):
        part = (row(5, "a", 1), row(3, "b", 1))
        self.assertEqual(given(over(("both", "s", "s")), part), [(3, 1, ("b", 1))] * 2 + [(5, 1, ("a", 1))] * 2)
        fed = {"s": (part,), "t": ()}
        self.assertEqual(lots_of(over(("both", "s", "s")), fed, (5, 1, ("a", 1))), [(("s", 0, 0),)] * 2)
        query = over(("both", "s", "y"), ("y", ("make", "t", (("k", ("column", "k")), ("n", ("column", "m"))))))
        self.assertEqual(given(query, part, t=((row(4, "t", 9),),)), [(3, 1, ("b", 1)), (4, 1, ("t", 9)), (5, 1, ("a", 1))])

    def test_rows_ascend_by_time_sign_and_values(self):
        part = (row(5, "a", 1), row(5, None, 1), row(5, "a", None), row(5, "a", 1, -1), row(2, "z", 9), row(5, "", 10), row(5, "a", 1))
        self.assertEqual(given((S, T, ("out", "s")), part), [
            (2, 1, ("z", 9)), (5, -1, ("a", 1)), (5, 1, (None, 1)), (5, 1, ("", 10)), (5, 1, ("a", None)), (5, 1, ("a", 1)),
            (5, 1, ("a", 1))])

    def sums(self, window, part, keys=("k",), told=(("c", "count", ("value", 1)),), **more):
        return given(over(("sum", "s", keys, window, told)), part, **more)

    def test_even_windows(self):
        rows = (row(0, "a", 1), row(9, "a", 1), row(10, "a", 1), row(25, "a", 1))
        whole_rows = [(9, 1, ("a", 0, 10, 2)), (19, 1, ("a", 10, 20, 1)), (29, 1, ("a", 20, 30, 1))]
        for m, many in ((0, 0), (9, 0), (10, 1), (19, 1), (20, 2), (29, 2), (30, 3), (END, 3)):
            self.assertEqual(self.sums(("even", 10), rows + (mark(m),)), whole_rows[:many])
        self.assertEqual(self.sums(("even", 1), rows[:1] + (mark(1),)), [(0, 1, ("a", 0, 1, 1))])

    def test_windows_close_at_end(self):
        rows = (row(10 ** 8, "a", 1), mark(END))
        for window, low, high in ((("even", 10 ** 6), 10 ** 8, 10 ** 8 + 10 ** 6), (("session", 10 ** 6), 10 ** 8, 10 ** 8 + 10 ** 6)):
            self.assertEqual(self.sums(window, rows), [(high - 1, 1, ("a", low, high, 1))])
        self.assertEqual(self.sums(("even", 10), ()), [])
        query = over(("sum", "s", (), ("even", 10), ()))
        self.assertEqual(given(query), [])

    def test_no_parts_close_all_windows_of_the_other_source(self):
        join = ("join", "s", "t", ("k",), 5, 5)
        query = (S, T, ("j", join), ("x", ("sum", "j", ("k",), ("even", 10), ())), ("out", "x"))
        fed = {"s": ((row(3, "a", 1), mark(10)),), "t": ((row(3, "a", 1),),)}
        self.assertEqual(meaning(query, fed), {})
        self.assertEqual(meaning(query, {**fed, "t": ((row(3, "a", 1), mark(10)),)}), {(9, 1, ("a", 0, 10)): 1})
        self.assertEqual(marks_of(query, {**fed, "t": ()})["x"], 10)

    def test_sliding_windows_that_overlap(self):
        rows = (row(0, "a", 1), row(9, "a", 1), row(10, "a", 1))
        self.assertEqual(self.sums(("sliding", 10, 4), rows + (mark(END),)), [
            (9, 1, ("a", 0, 10, 2)), (13, 1, ("a", 4, 14, 2)), (17, 1, ("a", 8, 18, 2))])
        self.assertEqual(self.sums(("sliding", 10, 4), rows + (mark(14),)), [(9, 1, ("a", 0, 10, 2)), (13, 1, ("a", 4, 14, 2))])
        self.assertEqual(len(self.sums(("sliding", 50, 1), (row(100, "a", 1), mark(END)))), 50)
        self.assertEqual(len(self.sums(("sliding", 50, 1), (row(10, "a", 1), mark(END)))), 11)

    def test_sliding_windows_with_holes(self):
        rows = tuple(row(time, "a", 1) for time in range(12)) + (mark(END),)
        self.assertEqual(self.sums(("sliding", 3, 5), rows), [
            (2, 1, ("a", 0, 3, 3)), (7, 1, ("a", 5, 8, 3)), (12, 1, ("a", 10, 13, 2))])
        self.assertEqual(self.sums(("sliding", 3, 5), (row(3, "a", 1), row(4, "a", 1), mark(END))), [])
        self.assertEqual(self.sums(("sliding", 5, 5), rows), self.sums(("even", 5), rows))

    def test_sessions(self):
        for times, awaited in (((5, 8), [(10, 1, ("a", 5, 11, 2))]), ((5, 7), [(9, 1, ("a", 5, 10, 2))]),
                               ((5, 5), [(7, 1, ("a", 5, 8, 2))]), ((9, 5, 7), [(11, 1, ("a", 5, 12, 3))]),
                               ((0,), [(2, 1, ("a", 0, 3, 1))]),
                               ((0, 3, 6), [(2, 1, ("a", 0, 3, 1)), (5, 1, ("a", 3, 6, 1)), (8, 1, ("a", 6, 9, 1))])):
            rows = tuple(row(time, "a", 1) for time in times) + (mark(END),)
            if times == (5, 8):
                awaited = [(7, 1, ("a", 5, 8, 1)), (10, 1, ("a", 8, 11, 1))]
            self.assertEqual(self.sums(("session", 3), rows), awaited, times)
        rows = (row(5, "a", 1), row(6, "b", 1), row(7, "a", 1, -1), row(9, "a", 1))
        self.assertEqual(self.sums(("session", 3), rows + (mark(11),)), [(8, 1, ("b", 6, 9, 1))])
        self.assertEqual(self.sums(("session", 3), rows + (mark(12),)), [(8, 1, ("b", 6, 9, 1)), (11, 1, ("a", 5, 12, 1))])
        self.assertEqual(self.sums(("session", 1), rows[:1] + (mark(6),)), [(5, 1, ("a", 5, 6, 1))])

    def test_keys(self):
        rows = (row(1, "a", 1), row(2, None, 1), row(3, "", 1), row(4, None, 2), mark(END))
        self.assertEqual(self.sums(("even", 10), rows), [(9, 1, (None, 0, 10, 2)), (9, 1, ("", 0, 10, 1)), (9, 1, ("a", 0, 10, 1))])
        self.assertEqual(self.sums(("even", 10), rows, ()), [(9, 1, (0, 10, 4))])
        self.assertEqual(self.sums(("even", 10), rows, ("n", "k")), [
            (9, 1, (1, None, 0, 10, 1)), (9, 1, (1, "", 0, 10, 1)), (9, 1, (1, "a", 0, 10, 1)), (9, 1, (2, None, 0, 10, 1))])
        self.assertEqual(self.sums(("even", 10), rows, ("n",), ()), [(9, 1, (1, 0, 10)), (9, 1, (2, 0, 10))])

    def told(self, *pairs):
        """What each how tells of rows with these worths and signs."""
        rows = tuple(row(1, "a", worth, sign) for worth, sign in pairs) + (mark(10),)
        told = tuple((name, how, N) for name, how in (("c", "count"), ("d", "sum"), ("e", "least"), ("f", "greatest")))
        return self.sums(("even", 10), rows, ("k",), told)[0][2][3:]

    def test_hows(self):
        for pairs, awaited in (
            (((5, 1),), (1, 5, 5, 5)), (((5, 1), (3, 1), (9, 1)), (3, 17, 3, 9)), (((None, 1),), (1, 0, None, None)),
            (((None, 1), (5, 1), (None, -1)), (1, 5, 5, 5)), (((5, 1), (5, -1)), (0, 0, None, None)), (((5, -1),), (-1, -5, None, None)),
            (((5, -1), (5, 1), (5, 1)), (1, 5, 5, 5)), (((3, -1), (3, -1), (3, 1), (7, 1)), (0, 4, 7, 7)),
            (((3, 1), (9, 1), (9, -1)), (1, 3, 3, 3)), (((3, 1), (3, -1), (9, 1)), (1, 9, 9, 9)),
            (((-5, 1), (0, 1)), (2, -5, -5, 0)), (((0, 1), (None, -1)), (0, 0, 0, 0)), (((10 ** 9, 1), (10 ** 9, 1)), (2, 2 * 10 ** 9, 10 ** 9, 10 ** 9)),
        ):
            self.assertEqual(self.told(*pairs), awaited, pairs)

    def test_count_looks_at_no_worth(self):
        rows = (row(1, "a", None), row(1, "a", 5), row(2, "a", 5, -1), row(2, "a", 5), mark(10))
        self.assertEqual(self.sums(("even", 10), rows, (), (("c", "count", N), ("d", "count", ("value", None)))), [(9, 1, (0, 10, 2, 2))])

    def test_least_and_greatest_of_texts(self):
        rows = tuple(row(1, key, 1) for key in ("b", "", None, "B", "a")) + (mark(10),)
        told = (("c", "least", ("column", "k")), ("d", "greatest", ("column", "k")))
        self.assertEqual(self.sums(("even", 10), rows, (), told), [(9, 1, (0, 10, "", "b"))])

    def test_rows_taken_back_leave_their_window(self):
        rows = (row(1, "a", 5, -1), row(2, "a", 5), mark(10))
        self.assertEqual(self.sums(("even", 10), rows), [(9, 1, ("a", 0, 10, 0))])
        self.assertEqual(self.sums(("even", 10), rows[:1] + rows[2:]), [(9, 1, ("a", 0, 10, -1))])
        self.assertEqual(self.sums(("even", 1), rows), [(1, 1, ("a", 1, 2, -1)), (2, 1, ("a", 2, 3, 1))])

    def joined(self, left, right, keys=("k",), back=0, ahead=0):
        return given(over(("join", "s", "t", keys, back, ahead)), tuple(left), t=(tuple(right),))

    def test_joins_at_just_back_and_ahead(self):
        for u, awaited in ((4, False), (5, True), (10, True), (13, True), (14, False)):
            found = self.joined([row(10, "a", 1)], [row(u, "a", 2)], ("k",), 5, 3)
            self.assertEqual(found, [(max(10, u), 1, ("a", 1, 2))] if awaited else [], u)
        self.assertEqual(self.joined([row(0, "a", 1)], [row(0, "a", 2)]), [(0, 1, ("a", 1, 2))])
        self.assertEqual(self.joined([row(0, "a", 1)], [row(1, "a", 2)], ("k",), 5, 0), [])

    def test_keys_of_joins(self):
        left, right = [row(1, "a", 1), row(1, None, 2), row(1, "", 3)], [row(1, None, 4), row(1, "a", 5), row(1, "b", 6)]
        self.assertEqual(self.joined(left, right), [(1, 1, (None, 2, 4)), (1, 1, ("a", 1, 5))])
        query = over(("join", "s", "u", (), 0, 0), ("u", ("make", "t", (("q", ("column", "m")),))))
        self.assertEqual(given(query, tuple(left[:2]), t=(tuple(right[:2]),)), [
            (1, 1, (None, 2, 4)), (1, 1, (None, 2, 5)), (1, 1, ("a", 1, 4)), (1, 1, ("a", 1, 5))])

    def test_signs_and_numbers_of_joins(self):
        for one in (1, -1):
            for other in (1, -1):
                self.assertEqual(self.joined([row(1, "a", 1, one)], [row(1, "a", 2, other)]), [(1, one * other, ("a", 1, 2))])
        self.assertEqual(self.joined([row(1, "a", 1)] * 2, [row(1, "a", 2)] * 3), [(1, 1, ("a", 1, 2))] * 6)

    def test_a_join_of_a_step_with_itself(self):
        query = over(("join", "s", "s", ("n", "k"), 0, 5))
        self.assertEqual(given(query, (row(1, "a", 1), row(4, "a", 1, -1), row(4, "a", 2))), [
            (1, 1, ("a", 1)), (4, -1, ("a", 1)), (4, 1, ("a", 1)), (4, 1, ("a", 2))])

    def test_columns_of_a_join_in_another_order(self):
        right = ("r", ("source", (("m", "number"), ("k", "text"), ("z", "number"))))
        query = (S, right, ("x", ("join", "s", "r", ("k",), 0, 0)), ("out", "x"))
        fed = {"s": ((row(1, "a", 1),),), "r": ((("row", 1, 1, (7, "a", 8)),),)}
        self.assertEqual(meaning(query, fed), {(1, 1, ("a", 1, 7, 8)): 1})

    def test_late_rows_count_nowhere(self):
        rows = (row(1, "a", 1), mark(5), row(4, "a", 1), row(5, "a", 1), mark(10))
        self.assertEqual(self.sums(("session", 3), rows), [(3, 1, ("a", 1, 4, 1)), (7, 1, ("a", 5, 8, 1))])
        self.assertEqual(self.joined([mark(5), row(4, "a", 1)], [row(4, "a", 1)]), [])


class Lots(unittest.TestCase):
    def test_lots_of_each_step(self):
        rows = (row(1, "a", 1), row(2, "a", 1), mark(10), row(3, "a", 1))
        fed = {"s": (rows, (row(2, "a", 1, -1), mark(10))), "t": ((row(2, "a", 5), mark(10)), ())}
        first, second, third = ("s", 0, 0), ("s", 0, 1), ("s", 1, 0)
        query = (S, T, ("k", ("keep", "s", N)), ("m", ("make", "k", (("k", ("column", "k")),))), ("out", "m"))
        self.assertEqual(rows_with_lots(query, fed), [((1, 1, ("a",)), (first,)), ((2, -1, ("a",)), (third,)), ((2, 1, ("a",)), (second,))])
        summed = over(("sum", "s", ("k",), ("sliding", 2, 1), ()))
        self.assertEqual(rows_with_lots(summed, fed), [
            ((1, 1, ("a", 0, 2)), (first,)), ((2, 1, ("a", 1, 3)), (first, second, third)), ((3, 1, ("a", 2, 4)), (second, third))])
        joined = over(("join", "s", "t", ("k",), 0, 1))
        self.assertEqual(rows_with_lots(joined, fed), [
            ((2, -1, ("a", 1, 5)), (third, ("t", 0, 0))), ((2, 1, ("a", 1, 5)), (first, ("t", 0, 0))),
            ((2, 1, ("a", 1, 5)), (second, ("t", 0, 0)))])
        self.assertEqual(lots_of(joined, fed, (2, 1, ("a", 1, 5))), [(first, ("t", 0, 0)), (second, ("t", 0, 0))])
        self.assertEqual(lots_of(joined, fed, (2, 1, ("a", 1, 6))), [])

    def test_an_entry_stands_once_in_a_lot(self):
        query = over(("join", "s", "s", ("n", "k"), 5, 5))
        fed = {"s": ((row(1, "a", 1), row(2, "a", 1)),), "t": ()}
        self.assertEqual(lots_of(query, fed, (2, 1, ("a", 1))), [(("s", 0, 0), ("s", 0, 1)), (("s", 0, 0), ("s", 0, 1)), (("s", 0, 1),)])
        doubled = (S, ("b", ("both", "s", "s")), ("x", ("sum", "b", (), ("even", 10), (("c", "count", N),))), ("out", "x"))
        self.assertEqual(rows_with_lots(doubled, {"s": ((row(1, "a", 1), mark(10)),)}), [((9, 1, (0, 10, 2)), (("s", 0, 0),))])

    def test_lots_ascend(self):
        fed = {"s": tuple((row(1, "a", 1),) * 12 for _ in range(3))}
        self.assertEqual(lots_of((S, ("out", "s")), fed, (1, 1, ("a", 1))), [(("s", p, n),) for p in range(3) for n in range(12)])


class Whole(unittest.TestCase):
    def test_whole_closes_all(self):
        query = over(("sum", "s", (), ("even", 10), (("c", "count", N),)))
        fed = {"s": ((row(3, "a", 1), row(25, "a", 1), mark(10), row(2, "a", 1)), (row(3, "a", 1),)), "t": ((),)}
        before = copy.deepcopy(fed)
        self.assertEqual(meaning(query, fed), {})
        self.assertEqual(whole(query, fed), {(9, 1, (0, 10, 2)): 1, (29, 1, (20, 30, 1)): 1})
        self.assertEqual(fed, before)

    def test_steps_on_which_out_does_not_hang(self):
        spare = ("z", ("join", "s", "t", ("k",), 0, 0))
        part = (row(3, "a", 1), mark(10))
        self.assertEqual(given((S, T, spare, ("out", "s")), part, t=((row(3, "a", 1),),)), [(3, 1, ("a", 1))])

    def test_bags(self):
        query = (S, T, ("out", "s"))
        self.assertEqual(meaning(query, {"s": ((row(1, "a", 1),) * 2, (row(1, "a", 1), row(1, "a", 1, -1))), "t": ()}),
                         {(1, 1, ("a", 1)): 3, (1, -1, ("a", 1)): 1})


class Sharing(unittest.TestCase):
    def test_nothing_is_shared(self):
        query = (S, ("x", ("keep", "s", N)), ("out", "x"))
        part = (row(3, "a", 1), mark(5), row(4, "a", 1))
        fed = {"s": (part,)}
        for call in (lambda: places_of(fed), lambda: cut(fed, places_of(fed)), lambda: marks_of(query, fed), lambda: all_late(fed),
                     lambda: rows_with_lots(query, fed), lambda: meaning(query, fed), lambda: whole(query, fed),
                     lambda: lots_of(query, fed, (3, 1, ("a", 1)))):
            first, again = call(), call()
            self.assertEqual(first, again)
            self.assertTrue(first)
            first.clear()
            self.assertEqual((call(), fed), (again, {"s": (part,)}))


def many(seed, times, steps=6):
    draw = a_draw(seed)
    for _ in range(times):
        query = a_query(draw, draw.randint(1, steps), judge_query, columns_of)
        fed = an_input(draw, query, sources_of, columns_of)
        yield draw, query, fed


class OfMany(unittest.TestCase):
    def test_against_the_definitions(self):
        filled = 0
        for _, query, fed in many(41, 500):
            self.assertIsNone(input_fault(query, fed))
            before = copy.deepcopy(fed)
            awaited = plainly.with_lots(query, fed)
            self.assertEqual(rows_with_lots(query, fed), awaited)
            self.assertEqual(meaning(query, fed), plainly.bag(query, fed))
            ended = {name: tuple(part + (("mark", END),) for part in parts) for name, parts in fed.items()}
            self.assertEqual(whole(query, fed), plainly.bag(query, ended))
            self.assertEqual(marks_of(query, fed), {name: plainly.mark_at(query, fed, name) for name, _ in query[:-1]})
            for row_given in meaning(query, fed):
                self.assertEqual(lots_of(query, fed, row_given), [lot for other, lot in awaited if other == row_given])
            self.assertEqual(fed, before)
            filled += awaited != []
        self.assertGreater(filled, 150)

    def test_it_grows(self):
        for draw, query, fed in many(42, 200):
            last = places_of(fed)
            some = {part: draw.randint(0, number) for part, number in last.items()}
            more = {part: draw.randint(some[part], number) for part, number in last.items()}
            self.assertTrue(is_further(some, more) and is_further(more, last))
            bags = [meaning(query, cut(fed, places)) for places in (some, more, last)] + [whole(query, fed)]
            for one, other in zip(bags, bags[1:]):
                self.assertTrue(is_part(one, other))

    def test_rows_with_no_mark_between_them_change_places(self):
        for draw, query, fed in many(43, 150):
            mixed = {}
            for name, parts in fed.items():
                mixed[name] = tuple(self.mixed(draw, part) for part in parts)
            self.assertEqual(meaning(query, mixed), meaning(query, fed))

    def mixed(self, draw, part):
        runs = [[]]
        for entry in part:
            if entry[0] == "mark":
                runs += [[entry], []]
            else:
                runs[-1].append(entry)
        return tuple(entry for run in runs for entry in draw.sample(run, len(run)))

    def test_rows_dealt_to_other_parts(self):
        for draw, query, fed in many(44, 150):
            dealt = {}
            for name, parts in fed.items():
                mark_there = plainly.mark_at(query, fed, name)
                rows = [entry for part in parts for n, entry in enumerate(part)
                        if entry[0] == "row" and not plainly.is_late(part, n)]
                lots = [[] for _ in range(draw.randint(1, 3))]
                for entry in rows:
                    draw.choice(lots).append(entry)
                dealt[name] = tuple(tuple(lot) + (("mark", mark_there),) for lot in lots) if parts else ()
            self.assertEqual(meaning(query, dealt), meaning(query, fed))


if __name__ == "__main__":
    unittest.main()
