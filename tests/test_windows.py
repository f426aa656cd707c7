import copy
import itertools
import math
import unittest

from oncestream.errors import BadInput
from oncestream.expressions import worth
from oncestream.marks import END, least_mark, new_marks, put_mark, risen
from oncestream.meaning import meaning
from oncestream.values import ranks
from oncestream.windows import (chained, count_slots, fresh, is_state, joined, marked, next_close, open_windows, put, slot, split,
                                stretches, windows_of)
from tests.makers import ANYTHING, a_draw, exchanged, within
from tests.plainly import session_of, windows_for
from tests.test_graphs import plain_group
from tests.test_sums import plain_tally, plain_tell
from tests.untouched import looked_at
from tests.weaving import a_channel, a_row, beginnings, lots_of_groups, woven_in

COLUMNS = (("k", "text"), ("n", "number"))
K, N, ONE = ("column", "k"), ("column", "n"), ("value", 1)
SUMS = (("c", "count", ONE), ("d", "sum", ("plus", N, N)), ("e", "least", K), ("f", "greatest", N))
SHAPES = (("even", 1), ("even", 10), ("even", 7), ("sliding", 10, 4), ("sliding", 10, 5), ("sliding", 7, 3), ("sliding", 3, 5), ("sliding", 4, 12),
          ("sliding", 6, 6), ("sliding", 50, 1), ("sliding", 1, 1), ("sliding", 12, 8))
SESSIONS = (("session", 1), ("session", 3), ("session", 5))
ALL = tuple(range(16))


def a_step(window, keys=("k",), sums=SUMS):
    return ("sum", "a", keys, window, sums)


def filled(step, rows, state=None):
    """The state behind rows put one behind another."""
    state = fresh() if state is None else state
    for row in rows:
        state = put(COLUMNS, step, state, row)[0]
    return state


class Plain:
    """A step that sums, told once more: all rows that still count, from which everything is found anew."""

    def __init__(self, step):
        self.step, self.mark, self.rows = step, 0, []

    def key(self, row):
        return tuple(row[2][[name for name, _ in COLUMNS].index(key)] for key in self.step[2])

    def slot(self, time):
        window = self.step[3]
        return time if window[0] == "session" else max(at for at in range(time + 1) if at % math.gcd(window[1], window[-1]) == 0)

    def windows(self, row):
        times = [other[0] for other in self.rows if self.key(other) == self.key(row)]
        return windows_for(self.step[3], row[0], times)

    def put(self, row):
        if row[0] >= self.mark and (self.step[3][0] == "session" or windows_for(self.step[3], row[0], [])):
            self.rows.append(row)

    def all_windows(self):
        """The dict from (high, key, low) to the rows there."""
        found = {}
        for row in self.rows:
            for low, high in self.windows(row):
                found.setdefault((high, self.key(row), low), []).append(row)
        return found

    def tallies(self, rows):
        pairs = [[(worth(COLUMNS, e, row[2]), row[1]) for row in rows] for _, _, e in self.step[4]]
        return tuple(plain_tally(told[1], some) for told, some in zip(self.step[4], pairs))

    def marked(self, mark):
        found, rows = self.all_windows(), []
        for high, key, low in sorted(found, key=lambda told: (told[0], ranks(told[1]), told[2])):
            if self.mark < high <= mark:
                sums = tuple(plain_tell(told[1], tally) for told, tally in zip(self.step[4], self.tallies(found[(high, key, low)])))
                rows.append((high - 1, 1, key + (low, high) + sums))
        left = {(self.key(row), self.slot(row[0])) for high, key, low in found if high > mark for row in found[(high, key, low)]}
        self.rows, self.mark = [row for row in self.rows if (self.key(row), self.slot(row[0])) in left], mark
        return tuple(rows)

    def state(self):
        groups = {}
        for row in self.rows:
            groups.setdefault(self.key(row), {}).setdefault(self.slot(row[0]), []).append(row)
        return (self.mark, tuple(
            (key, tuple((at, (len(rows), self.tallies(rows))) for at, rows in sorted(groups[key].items())))
            for key in sorted(groups, key=ranks)))

    def open(self):
        found = [told for told in self.all_windows() if told[0] > self.mark]
        return [(key, low, high) for high, key, low in sorted(found, key=lambda told: (told[0], ranks(told[1]), told[2]))]


class Stretches(unittest.TestCase):
    def test_at_the_ends_of_windows(self):
        for window, time, awaited in (
            (("even", 10), 0, ((0, 10),)), (("even", 10), 9, ((0, 10),)), (("even", 10), 10, ((10, 20),)), (("even", 10), 19, ((10, 20),)),
            (("even", 1), 5, ((5, 6),)), (("even", 10 ** 6), 10 ** 8, ((10 ** 8, 10 ** 8 + 10 ** 6),)), (("even", 10 ** 6), 10 ** 8 - 1, ((99 * 10 ** 6, 10 ** 8),)),
            (("sliding", 10, 4), 0, ((0, 10),)), (("sliding", 10, 4), 3, ((0, 10),)), (("sliding", 10, 4), 4, ((0, 10), (4, 14))),
            (("sliding", 10, 4), 8, ((0, 10), (4, 14), (8, 18))), (("sliding", 10, 4), 9, ((0, 10), (4, 14), (8, 18))),
            (("sliding", 10, 4), 10, ((4, 14), (8, 18))), (("sliding", 10, 4), 12, ((4, 14), (8, 18), (12, 22))),
            (("sliding", 3, 5), 0, ((0, 3),)), (("sliding", 3, 5), 2, ((0, 3),)), (("sliding", 3, 5), 3, ()), (("sliding", 3, 5), 4, ()),
            (("sliding", 3, 5), 5, ((5, 8),)), (("sliding", 3, 5), 7, ((5, 8),)), (("sliding", 3, 5), 8, ()), (("sliding", 5, 5), 5, ((5, 10),)),
            (("sliding", 1, 10 ** 6), 10 ** 8, ((10 ** 8, 10 ** 8 + 1),)), (("sliding", 1, 10 ** 6), 10 ** 8 - 1, ()),
        ):
            self.assertEqual(looked_at(self, windows_of, window, time), awaited, (window, time))

    def test_fifty_windows(self):
        found = windows_of(("sliding", 10 ** 6, 20000), 10 ** 8 - 1)
        self.assertEqual((len(found), found[0], found[-1]), (50, (99000000, 10 ** 8), (99980000, 100980000)))
        self.assertEqual(len(windows_of(("sliding", 50, 1), 48)), 49)

    def test_of_all_times(self):
        for window in SHAPES:
            for time in range(60):
                self.assertEqual(windows_of(window, time), tuple(windows_for(window, time, [])), (window, time))

    def test_chained(self):
        for times, gap, awaited in (
            ((), 5, ()), ((7,), 5, ((7, 12),)), ((0,), 1, ((0, 1),)), ((1, 4, 9, 10), 5, ((1, 9), (9, 15))), ((1, 4, 9, 10), 6, ((1, 16),)),
            ((0, 5), 5, ((0, 5), (5, 10))), ((0, 4), 5, ((0, 9),)), ((0, 1, 2), 1, ((0, 1), (1, 2), (2, 3))), ((0, 1, 2), 2, ((0, 4),)),
            ((0, 4, 8, 13, 17), 5, ((0, 13), (13, 22))), ((10 ** 8,), 10 ** 6, ((10 ** 8, 101000000),)),
        ):
            self.assertEqual(looked_at(self, chained, times, gap), awaited)

    def test_chained_of_all_times(self):
        for times in itertools.chain.from_iterable(itertools.combinations(range(8), many) for many in range(9)):
            for gap in (1, 2, 3, 5):
                self.assertEqual(chained(times, gap), tuple(sorted({session_of(time, times, gap) for time in times})))

    def test_slots(self):
        for window, time, awaited in (
            (("even", 10), 0, 0), (("even", 10), 9, 0), (("even", 10), 10, 10), (("even", 10), 25, 20), (("even", 1), 7, 7),
            (("sliding", 10, 4), 9, 8), (("sliding", 10, 4), 7, 6), (("sliding", 10, 5), 9, 5), (("sliding", 7, 3), 11, 11),
            (("sliding", 4, 12), 11, 8), (("sliding", 12, 8), 11, 8), (("sliding", 12, 8), 3, 0), (("sliding", 6, 6), 11, 6),
            (("session", 5), 9, 9), (("session", 1), 0, 0),
        ):
            self.assertEqual(looked_at(self, slot, window, time), awaited)

    def test_windows_are_made_of_whole_slots(self):
        for window in SHAPES:
            divisor = math.gcd(window[1], window[-1])
            for time in range(60):
                at = slot(window, time)
                self.assertEqual(at, [other for other in range(time + 1) if other % divisor == 0][-1])
                self.assertEqual(windows_of(window, at), windows_of(window, time))
        for window in SESSIONS:
            self.assertEqual([slot(window, time) for time in range(20)], list(range(20)))

    def test_stretches(self):
        for window, slots, awaited in (
            (("even", 10), (), ()), (("even", 10), (0, 30), ((0, 10), (30, 40))), (("sliding", 3, 5), (3, 4), ()), (("session", 3), (), ()),
            (("sliding", 10, 4), (8, 20), ((0, 10), (4, 14), (8, 18), (12, 22), (16, 26), (20, 30))), (("session", 3), (1, 2, 7), ((1, 5), (7, 10))),
            (("sliding", 3, 5), (1, 3, 6), ((0, 3), (5, 8))),
        ):
            self.assertEqual(looked_at(self, stretches, window, slots), awaited)
        draw = a_draw(61)
        for _ in range(200):
            window = draw.choice(SHAPES + SESSIONS)
            slots = sorted({slot(window, draw.randint(0, 40)) for _ in range(draw.randint(0, 6))})
            awaited = sorted({stretch for at in slots for stretch in windows_for(window, at, slots)})
            self.assertEqual(stretches(window, tuple(slots)), tuple(awaited))


class Put(unittest.TestCase):
    def test_fresh(self):
        self.assertEqual(looked_at(self, fresh), (0, ()))

    def test_a_row_comes_to_its_key_and_slot(self):
        step = a_step(("sliding", 10, 4), ("k",), (("c", "count", K), ("d", "sum", ("plus", N, ONE)), ("e", "greatest", K)))
        state, rows = looked_at(self, put, COLUMNS, step, fresh(), (9, 1, ("x", 5)))
        self.assertEqual((state, rows), ((0, ((("x",), ((8, (1, (1, 6, (("x", 1),)))),)),)), ()))
        state, rows = looked_at(self, put, COLUMNS, step, state, (8, -1, ("x", None)))
        self.assertEqual((state, rows), ((0, ((("x",), ((8, (2, (0, 6, ()))),)),)), ()))
        self.assertEqual(put(COLUMNS, step, state, (7, 1, ("x", 0))), ((0, ((("x",), ((6, (1, (1, 1, (("x", 1),)))), (8, (2, (0, 6, ()))))),)), ()))

    def test_times_at_the_mark(self):
        for window in (("even", 10), ("sliding", 10, 4), ("session", 5), ("even", 1)):
            step = a_step(window)
            state = marked(step, fresh(), 12)[0]
            for time, changes in ((0, False), (10, False), (11, False), (12, True), (13, True), (10 ** 8, True)):
                after, rows = looked_at(self, put, COLUMNS, step, state, (time, 1, ("x", 1)))
                self.assertEqual((after != state, after[0], rows), (changes, 12, ()))

    def test_a_row_in_a_hole(self):
        step = a_step(("sliding", 3, 5))
        for time, changes in ((2, True), (3, False), (4, False), (5, True), (8, False), (9, False), (10, True)):
            after, rows = put(COLUMNS, step, fresh(), (time, -1, ("x", 1)))
            self.assertEqual((after != fresh(), rows), (changes, ()))

    def test_keys_ascend(self):
        step = a_step(("even", 10), ("n", "k"), ())
        keys = [(None, None), (None, ""), (-1, "b"), (0, None), (0, "a"), (5, "Z"), (5, "a"), (10, ""), (10, "a")]
        draw = a_draw(62)
        for _ in range(10):
            order = keys + keys[:3]
            draw.shuffle(order)
            state = filled(step, [(draw.randint(0, 9), 1, (k, n)) for n, k in order])
            self.assertEqual([key for key, _ in state[1]], keys)
        state = filled(a_step(("even", 10)), [(0, 1, (k, 0)) for k in ("b", None, "", "a", "Z", " ")])
        self.assertEqual([key for key, _ in state[1]], [(None,), ("",), (" ",), ("Z",), ("a",), ("b",)])

    def test_without_keys_and_without_sums(self):
        step = a_step(("even", 10), (), ())
        state = filled(step, [(3, 1, ("x", 1)), (12, -1, ("y", 1)), (4, 1, (None, None))])
        self.assertEqual(state, (0, (((), ((0, (2, ())), (10, (1, ())))),)))
        self.assertEqual(marked(step, state, 20)[1], ((9, 1, (0, 10)), (19, 1, (10, 20))))

    def test_a_lot_in_which_nothing_is_left(self):
        for window in (("even", 10), ("session", 5)):
            step = a_step(window)
            state = filled(step, [(3, 1, ("x", 1)), (3, -1, ("x", 1))])
            self.assertEqual(state[1], ((("x",), ((0 if window[0] == "even" else 3, (2, (0, 0, (), ()))),)),))
            self.assertEqual(len(open_windows(step, state)), 1)
            self.assertIs(is_state(step, state), True)
            low, high = open_windows(step, state)[0][1:]
            self.assertEqual(marked(step, state, high)[1], ((high - 1, 1, ("x", low, high, 0, 0, None, None)),))

    def test_a_row_that_takes_back_ahead_of_what_it_takes(self):
        step = a_step(("even", 10))
        state = filled(step, [(3, -1, ("x", 4)), (4, 1, ("x", 4)), (5, 1, ("x", 4))])
        self.assertEqual(marked(step, state, 10)[1], ((9, 1, ("x", 0, 10, 1, 8, "x", 4)),))


class Marked(unittest.TestCase):
    def closing(self, step, rows, marks):
        """What is given at each of these marks."""
        state, found = filled(step, rows), []
        for mark in marks:
            state, given = looked_at(self, marked, step, state, mark)
            self.assertEqual(state[0], mark)
            found.append([row[2][1:3] for row in given])
        return found, state

    def test_high_at_the_mark(self):
        step = a_step(("even", 10), ("k",), ())
        self.assertEqual(self.closing(step, [(3, 1, ("x", 1)), (12, 1, ("x", 1))], (9, 10, 11, 19, 20, 21))[0], [[], [(0, 10)], [], [], [(10, 20)], []])
        self.assertEqual(self.closing(step, [(3, 1, ("x", 1)), (12, 1, ("x", 1))], (20, END))[0], [[(0, 10), (10, 20)], []])

    def test_high_at_the_elder_mark_is_not_given_again(self):
        step = a_step(("sliding", 10, 4), ("k",), ())
        found, state = self.closing(step, [(8, 1, ("x", 1))], (9, 10, 13, 14, 17))
        self.assertEqual(found, [[], [(0, 10)], [], [(4, 14)], []])
        self.assertEqual((state, open_windows(step, state)), ((17, ((("x",), ((8, (1, ())),)),)), [(("x",), 8, 18)]))
        self.assertEqual(marked(step, state, 18), ((18, ()), ((17, 1, ("x", 8, 18)),)))

    def test_a_slot_stays_till_its_last_window_has_closed(self):
        step = a_step(("sliding", 10, 5), ("k",), ())
        state = filled(step, [(0, 1, ("x", 1)), (5, 1, ("x", 1)), (5, 1, ("y", 1))])
        state, rows = marked(step, state, 10)
        self.assertEqual(rows, ((9, 1, ("x", 0, 10)), (9, 1, ("y", 0, 10))))
        self.assertEqual(state, (10, ((("x",), ((5, (1, ())),)), (("y",), ((5, (1, ())),)))))
        self.assertEqual(marked(step, state, 15)[0], (15, ()))

    def test_a_late_row_of_one_window_comes_to_the_others(self):
        step = a_step(("sliding", 10, 5), ("k",), (("c", "count", ONE),))
        state = marked(step, filled(step, [(6, 1, ("x", 1))]), 10)[0]
        # The slot 5 is still open up to 15; a row at 10 comes to the slot 10, one at 9 is below the mark.
        self.assertEqual(filled(step, [(9, 1, ("x", 1))], state), state)
        self.assertEqual(marked(step, filled(step, [(10, 1, ("x", 1)), (14, 1, ("x", 1))], state), 15)[1], ((14, 1, ("x", 5, 15, 3)),))

    def test_slots_that_come_behind_windows_that_have_closed(self):
        step = a_step(("sliding", 10, 4), ("k",), (("c", "count", ONE),))
        state = marked(step, fresh(), 12)[0]
        # The slot 12 lies in (4, 14), (8, 18), (12, 22); all these are still to close, and (0, 10) does not have it.
        state = filled(step, [(13, 1, ("x", 1))], state)
        self.assertEqual(open_windows(step, state), [(("x",), 4, 14), (("x",), 8, 18), (("x",), 12, 22)])
        self.assertEqual(marked(step, state, END)[1], ((13, 1, ("x", 4, 14, 1)), (17, 1, ("x", 8, 18, 1)), (21, 1, ("x", 12, 22, 1))))

    def test_the_order_of_rows(self):
        step = a_step(("sliding", 10, 5), ("k", "n"), ())
        rows = [(5, 1, ("b", 2)), (7, 1, ("a", 10)), (6, 1, ("a", 9)), (9, 1, (None, 3)), (12, 1, ("a", 9))]
        keys = [(None, 3), ("a", 9), ("a", 10), ("b", 2)]
        awaited = [(9, 1, key + (0, 10)) for key in keys] + [(14, 1, key + (5, 15)) for key in keys] + [(19, 1, ("a", 9, 10, 20))]
        for order in itertools.permutations(rows):
            self.assertEqual(marked(step, filled(step, order), END)[1], tuple(awaited))

    def test_sessions_of_one_high(self):
        step = a_step(("session", 5), ("k",), ())
        state = filled(step, [(0, 1, ("b", 1)), (4, 1, ("b", 1)), (4, 1, ("a", 1)), (2, 1, (None, 1)), (11, 1, ("a", 1))])
        self.assertEqual(open_windows(step, state), [((None,), 2, 7), (("a",), 4, 9), (("b",), 0, 9), (("a",), 11, 16)])
        self.assertEqual(marked(step, state, 9), ((9, ((("a",), ((11, (1, ())),)),)), ((6, 1, (None, 2, 7)), (8, 1, ("a", 4, 9)), (8, 1, ("b", 0, 9)))))

    def test_sessions_that_grow(self):
        step = a_step(("session", 5), ("k",), (("c", "count", ONE),))
        state = filled(step, [(0, 1, ("x", 1)), (8, 1, ("x", 1))])
        self.assertEqual(open_windows(step, state), [(("x",), 0, 5), (("x",), 8, 13)])
        self.assertEqual(open_windows(step, filled(step, [(4, -1, ("x", 1))], state)), [(("x",), 0, 13)])
        state = marked(step, filled(step, [(3, 1, ("x", 1))], state), 8)[0]
        self.assertEqual(state, (8, ((("x",), ((8, (1, (1,))),)),)))
        self.assertEqual(marked(step, filled(step, [(12, 1, ("x", 1))], state), 17)[1], ((16, 1, ("x", 8, 17, 2)),))

    def test_end_closes_all(self):
        for window in SHAPES + SESSIONS:
            step = a_step(window)
            state = filled(step, [(time, 1, (k, 2)) for time in (0, 5, 20, 24, 10 ** 8) for k in ("x", None)])
            after, rows = marked(step, state, END)
            self.assertEqual(after, (END, ()))
            self.assertEqual(len(rows), len(open_windows(step, state)))
            self.assertEqual(filled(step, [(10 ** 8, 1, ("x", 1))], after), after)

    def test_times_beyond_all_inputs(self):
        """A sum of sums gets rows with times beyond those of any input."""
        step = a_step(("even", 10 ** 6), ("k",), ())
        time = 10 ** 8 + 15 * 10 ** 6
        self.assertEqual(marked(step, filled(step, [(time, 1, ("x", 1))]), END)[1], ((time + 10 ** 6 - 1, 1, ("x", time, time + 10 ** 6)),))


class Told(unittest.TestCase):
    def test_of_nothing(self):
        for window in SHAPES + SESSIONS:
            for state in (fresh(), (7, ()), (END, ())):
                step = a_step(window)
                self.assertEqual((looked_at(self, open_windows, step, state), next_close(step, state), count_slots(state)), ([], None, 0))
                self.assertEqual(looked_at(self, marked, step, state, END), ((END, ()), ()))
                self.assertIs(is_state(step, state), True)

    def test_open_windows(self):
        step = a_step(("even", 10), ("k",), ())
        state = filled(step, [(12, 1, ("a", 1)), (3, 1, ("b", 1)), (4, 1, ("b", 1)), (5, 1, ("a", 1)), (25, 1, (None, 1))])
        self.assertEqual(looked_at(self, open_windows, step, state), [(("a",), 0, 10), (("b",), 0, 10), (("a",), 10, 20), ((None,), 20, 30)])
        self.assertEqual((looked_at(self, next_close, step, state), looked_at(self, count_slots, state)), (10, 4))
        state = marked(step, state, 10)[0]
        self.assertEqual((next_close(step, state), count_slots(state)), (20, 2))


class IsState(unittest.TestCase):
    def right(self, step, *values):
        for value in values:
            self.assertIs(looked_at(self, is_state, step, value), True, value)

    def wrong(self, step, *values):
        for value in values:
            self.assertIs(looked_at(self, is_state, step, value), False, value)

    def test_marks(self):
        step, groups = a_step(("even", 10), ("k",), ()), ((("x",), ((10, (1, ())),)),)
        self.right(step, (0, groups), (5, groups), (19, groups), (END, ()), (0, ()))
        self.wrong(step, (20, groups), (21, groups), (END, groups), (True, groups), (False, ()), (None, ()), (-1, ()), (END + 1, ()), ("0", ()), ((0,), ()))

    def test_forms(self):
        step = a_step(("even", 10), ("k",), ())
        self.wrong(step, (), (0,), (0, (), ()), [0, ()], (0, []), (0, None), (0, {}), (0, ((),)), (0, ((("x",),),)), (0, ((("x",), ((0, (1, ())),), 0),)),
                   (0, ([("x",), ((0, (1, ())),)],)), (0, [(("x",), ((0, (1, ())),))]), None, 0, "", {}, within(30))
        for value in ANYTHING:
            self.assertIs(is_state(step, value), False, value)
            self.assertIs(is_state(step, (0, value)), value == (), value)
            self.assertIs(is_state(step, (0, (value,))), False, value)
            self.assertIs(is_state(step, (0, ((("x",), value),))), False, value)
            self.assertIs(is_state(step, (0, ((("x",), (value,)),))), False, value)
            self.assertIs(is_state(step, (0, ((("x",), ((0, value),)),))), False, value)

    def test_keys(self):
        step, slots = a_step(("even", 10), ("k", "n"), ()), ((0, (1, ())),)
        self.right(step, (0, ((("x", 1), slots),)), (0, (((1, "x"), slots),)), (0, (((None, None), slots), ((0, None), slots), ((0, 1), slots), (("", 0), slots))))
        self.wrong(step, (0, ((("x",), slots),)), (0, ((("x", 1, 2), slots),)), (0, (((), slots),)), (0, ((("x", True), slots),)),
                   (0, ((("x", "a.b"), slots),)), (0, ((["x", 1], slots),)), (0, (("x", slots),)), (0, ((None, slots),)), (0, ((("x", [1]), slots),)),
                   (0, ((("x", 1), slots), (("x", 1), slots))), (0, ((("x", 1), slots), (("x", 0), slots))), (0, (((1, 1), slots), ((None, 1), slots))),
                   (0, ((("a", 1), slots), ((1, 1), slots))))
        bare = a_step(("even", 10), (), ())
        self.right(bare, (0, (((), slots),)))
        self.wrong(bare, (0, (((None,), slots),)), (0, (((), slots), ((), slots))))

    def test_slots(self):
        step, lot = a_step(("even", 10), (), ()), (1, ())
        self.right(step, (0, (((), ((0, lot), (10, lot), (50, lot))),)), (0, (((), ((10 ** 59, lot),)),)))
        self.wrong(step, (0, (((), ()),)), (0, (((), ((5, lot),)),)), (0, (((), ((10, lot), (0, lot))),)), (0, (((), ((10, lot), (10, lot))),)),
                   (0, (((), ((-10, lot),)),)), (0, (((), ((False, lot),)),)), (0, (((), ((None, lot),)),)), (0, (((), (("0", lot),)),)),
                   (0, (((), ([0, lot],)),)), (0, (((), [(0, lot)]),)), (0, (((), ((0, lot, lot),)),)), (0, (((), ((0,),)),)), (0, (((), {0: lot}),)))
        self.wrong(a_step(("even", 1), (), ()), (0, (((), ((True, lot),)),)))

    def test_slots_of_sliding_windows(self):
        step, lot = a_step(("sliding", 10, 4), (), ()), (1, ())
        self.right(step, (0, (((), ((0, lot), (2, lot))),)), (17, (((), ((8, lot),)),)), (9, (((), ((0, lot), (10, lot))),)))
        self.wrong(step, (0, (((), ((1, lot),)),)), (18, (((), ((8, lot),)),)), (10, (((), ((0, lot), (10, lot))),)), (10, (((), ((2, lot),)),)))
        holes = a_step(("sliding", 4, 12), (), ())
        self.right(holes, (0, (((), ((0, lot), (12, lot))),)))
        self.wrong(holes, (0, (((), ((4, lot),)),)), (0, (((), ((8, lot),)),)), (0, (((), ((0, lot), (4, lot))),)), (4, (((), ((0, lot), (12, lot))),)))

    def test_slots_of_sessions(self):
        step, lot = a_step(("session", 5), (), ()), (1, ())
        self.right(step, (0, (((), ((3, lot), (4, lot), (9, lot))),)), (7, (((), ((3, lot),)),)), (11, (((), ((3, lot), (7, lot))),)),
                   (13, (((), ((0, lot), (4, lot), (8, lot), (9, lot))),)))
        self.wrong(step, (0, (((), ((-1, lot),)),)), (8, (((), ((3, lot),)),)), (12, (((), ((3, lot), (7, lot))),)), (12, (((), ((3, lot), (12, lot))),)), (0, (((), ((4, lot), (3, lot))),)))

    def test_lots(self):
        step = a_step(("even", 10), (), (("c", "count", ONE), ("d", "least", N)))
        good = ((1, (0, ())), (7, (-3, ((2, 1), ("a", -1)))), (10 ** 59, (10 ** 59, ((5, 9),))))
        self.right(step, *[(0, (((), ((0, lot),)),)) for lot in good])
        bad = ((0, (0, ())), (0, (1, ((2, 1),))), (-1, (0, ())), (True, (0, ())), (1, (0, ((2, 0),))), (1, (0,)), (1, (0, (), ())), (1, ((), 0)),
               (1, [0, ()]), [1, (0, ())], (1, (True, ())), (1, (0, [])), (1, (0, ((3, 1), (2, 1)))), (1, ()), (1,), (), None)
        self.wrong(step, *[(0, (((), ((0, lot),)),)) for lot in bad])

    def test_one_thing_exchanged(self):
        for window in (("even", 10), ("sliding", 10, 4), ("session", 5)):
            step = a_step(window)
            state = filled(step, [(23, 1, ("x", 1)), (22, -1, (None, 3)), (24, 1, ("x", 2))])
            self.assertIs(is_state(step, state), True)
            for value in exchanged(state, lambda thing: [True, False, [thing], {}, "!"] + ([list(thing)] if isinstance(thing, tuple) else [])):
                self.assertIs(is_state(step, value), False, value)


class Shared(unittest.TestCase):
    def some_states(self, seed, times=60):
        draw = a_draw(seed)
        for _ in range(times):
            step = a_step(draw.choice(SHAPES + SESSIONS), draw.choice(((), ("k",), ("n", "k"), ("n",))), draw.choice((SUMS, (), SUMS[1:3])))
            state = filled(step, [a_row(draw, COLUMNS, 0, 30) for _ in range(draw.randint(0, 12))])
            yield draw, step, marked(step, state, draw.choice((1, 5, 12)))[0]

    def test_split_and_joined(self):
        for draw, step, state in self.some_states(63):
            for many in (1, 2, 3, 5):
                parts = [looked_at(self, split, state, groups) for groups in lots_of_groups(draw, many)]
                draw.shuffle(parts)
                self.assertEqual(looked_at(self, joined, step, parts), state)
                self.assertEqual(joined(step, tuple(parts)), state)
                for part in parts:
                    self.assertIs(is_state(step, part), True)
            self.assertEqual((split(state, ()), split(state, ALL)), ((state[0], ()), state))

    def test_split_goes_by_the_groups_of_keys(self):
        for _, step, state in self.some_states(64, 20):
            for g in ALL:
                self.assertEqual(split(state, (g,)), (state[0], tuple(pair for pair in state[1] if plain_group(pair[0]) == g)))

    def test_one_state_alone(self):
        for _, step, state in self.some_states(65, 5):
            self.assertEqual(joined(step, [state]), state)
            self.assertEqual(joined(step, [state, (state[0], ()), (state[0], ())]), state)

    def test_unlike_marks(self):
        step = a_step(("even", 10))
        for marks, place in (((1, 2), 1), ((1, 1, 2), 2), ((1, 2, 3, 1), 1), ((0, 0, 0, 5, 6), 3), ((5, 0), 1), ((END, 0), 1)):
            states = [(mark, ()) for mark in marks]
            with self.assertRaises(BadInput) as caught:
                joined(step, states)
            self.assertEqual((caught.exception.place, states), (place, [(mark, ()) for mark in marks]))

    def test_lots_of_one_key_and_slot_are_merged(self):
        step = a_step(("even", 10), ("k",), SUMS)
        one, other = [(3, 1, ("x", 1)), (4, -1, ("y", 2))], [(5, 1, ("x", 7)), (15, 1, ("x", 7)), (5, -1, ("x", 1))]
        self.assertEqual(joined(step, [filled(step, one), filled(step, other)]), filled(step, one + other))

    def test_rows_dealt_out_in_any_way(self):
        draw = a_draw(66)
        for _ in range(80):
            step = a_step(draw.choice(SHAPES), draw.choice(((), ("k",))), draw.choice((SUMS, ())))
            rows = [a_row(draw, COLUMNS, 0, 30) for _ in range(12)]
            lots = [[], [], []]
            for row in rows:
                draw.choice(lots).append(row)
            self.assertEqual(joined(step, [filled(step, lot) for lot in lots]), filled(step, rows))
            mark = draw.choice((3, 10, 20, 30))
            whole = marked(step, filled(step, rows), mark)[0]
            self.assertEqual(joined(step, [marked(step, filled(step, lot), mark)[0] for lot in lots]), whole)

    def test_sessions_dealt_out_by_keys(self):
        draw = a_draw(67)
        for _ in range(40):
            step = a_step(draw.choice(SESSIONS))
            rows = [a_row(draw, COLUMNS, 0, 30) for _ in range(12)]
            lots = [[row for row in rows if plain_group(row[2][:1]) % 3 == number] for number in range(3)]
            for mark in (1, 12):
                states = [marked(step, filled(step, lot), mark)[0] for lot in lots]
                self.assertEqual(joined(step, states), marked(step, filled(step, rows), mark)[0])

    def test_sessions_that_fall_apart_may_close_apart(self):
        step = a_step(("session", 5), ("k",), ())
        rows = [(0, 1, ("x", 1)), (4, 1, ("x", 1))]
        self.assertEqual(marked(step, filled(step, rows), 8)[1], ())
        self.assertEqual(marked(step, filled(step, rows[:1]), 8)[1], ((4, 1, ("x", 0, 5)),))
        self.assertEqual(joined(step, [filled(step, rows[:1]), filled(step, rows[1:])]), filled(step, rows))

    def test_split_states_go_on_as_the_whole(self):
        for draw, step, state in self.some_states(68):
            lots = lots_of_groups(draw, 3)
            parts, mark = [split(state, groups) for groups in lots], state[0]
            for _ in range(12):
                if draw.random() < 0.3:
                    mark += draw.randint(1, 9)
                    state, rows = marked(step, state, mark)
                    given = []
                    for at, part in enumerate(parts):
                        parts[at], some = marked(step, part, mark)
                        given.extend(some)
                    order = sorted(given, key=lambda row: (row[0] + 1, ranks(row[2])))
                    self.assertEqual(tuple(order), rows)
                else:
                    row = a_row(draw, COLUMNS, mark)
                    key = tuple(dict(zip("kn", row[2]))[name] for name in step[2])
                    at = [plain_group(key) in groups for groups in lots].index(True)
                    state, parts[at] = put(COLUMNS, step, state, row)[0], put(COLUMNS, step, parts[at], row)[0]
                self.assertEqual(joined(step, parts), state)


class AnyWeaving(unittest.TestCase):
    def run_woven(self, step, many, woven):
        """The state behind what is woven, its marks, and the rows given at each mark told."""
        marks, told, state, given = new_marks([(number,) for number in range(many)]), 0, fresh(), []
        for number, (word, thing) in woven:
            if word == "row":
                after, rows = put(COLUMNS, step, state, thing)
                self.assertEqual(rows, ())
                is_counted = step[3][0] == "session" or windows_of(step[3], thing[0]) != ()
                self.assertEqual(after != state, is_counted, "no row is left out for its time")
                state = after
            else:
                marks = put_mark(marks, (number,), thing)
                rise = risen(marks, told)
                if rise is not None:
                    state, rows = marked(step, state, rise)
                    for row in rows:
                        self.assertLessEqual(told, row[0])
                        self.assertLess(row[0], rise)
                    given.append((rise, rows))
                    told = rise
        return state, least_mark(marks), given

    def test_against_all_told_once_more(self):
        draw = a_draw(69)
        for _ in range(150):
            step = a_step(draw.choice(SHAPES + SESSIONS), draw.choice(((), ("k",), ("n", "k"))), draw.choice((SUMS, (), SUMS[2:])))
            state, plain, mark = fresh(), Plain(step), 0
            for _ in range(draw.randint(1, 18)):
                if draw.random() < 0.35:
                    mark += draw.choice((1, 2, 5, 9, 30))
                    state, rows = marked(step, state, mark)
                    self.assertEqual(rows, plain.marked(mark))
                else:
                    row = a_row(draw, COLUMNS, max(0, mark - 3), 12)
                    state = put(COLUMNS, step, state, row)[0]
                    plain.put(row)
                self.assertEqual(state, plain.state())
                self.assertEqual(open_windows(step, state), plain.open())
                self.assertEqual(next_close(step, state), min([high for _, _, high in plain.open()], default=None))
                self.assertEqual(count_slots(state), sum(len(slots) for _, slots in plain.state()[1]))
                self.assertIs(is_state(step, state), True)
            self.assertEqual(marked(step, state, END)[1], plain.marked(END))

    def test_two_weavings(self):
        draw = a_draw(70)
        for _ in range(60):
            step = a_step(draw.choice(SHAPES + SESSIONS), draw.choice(((), ("k",))))
            channels = [a_channel(draw, COLUMNS, 10) for _ in range(draw.randint(1, 3))]
            for inputs in [channels] + [beginnings(draw, channels) for _ in range(2)]:
                one, other = [self.run_woven(step, len(inputs), woven_in(draw, inputs)) for _ in range(2)]
                self.assertEqual(one[:2], other[:2])
                rows = [sorted((row for _, some in run[2] for row in some), key=lambda row: (row[0], ranks(row[2]))) for run in (one, other)]
                self.assertEqual(rows[0], rows[1])

    def test_rows_up_to_each_mark_are_the_plain_meaning(self):
        draw = a_draw(71)
        for _ in range(60):
            step = ("sum", "s") + a_step(draw.choice(SHAPES + SESSIONS), draw.choice(((), ("k",))))[2:]
            query = (("s", ("source", COLUMNS)), ("x", step), ("out", "x"))
            channels = [a_channel(draw, COLUMNS, 10, draw.choice((None, 20, END))) for _ in range(draw.randint(1, 3))]
            parts = tuple(tuple(("row",) + thing if word == "row" else (word, thing) for word, thing in things) for things in channels)
            given = {}
            for _, rows in self.run_woven(step, len(channels), woven_in(draw, channels))[2]:
                for row in rows:
                    given[row] = given.get(row, 0) + 1
            self.assertEqual(given, meaning(query, {"s": parts}))

    def test_each_row_is_given_when_the_least_mark_is_first_at_its_high(self):
        draw = a_draw(72)
        for _ in range(40):
            step = a_step(draw.choice(SHAPES + SESSIONS), ("k",))
            channels = [a_channel(draw, COLUMNS, 12, END) for _ in range(2)]
            elder = 0
            for mark, rows in self.run_woven(step, 2, woven_in(draw, channels))[2]:
                for row in rows:
                    self.assertTrue(elder < row[2][2] <= mark)
                    self.assertEqual(row[0], row[2][2] - 1)
                elder = mark

    def test_arguments_stay(self):
        step, row = a_step(("session", 5)), (3, 1, ("x", 1))
        state = filled(step, [row, (9, 1, ("y", 1))])
        before = copy.deepcopy((step, state))
        self.assertEqual(repr(looked_at(self, put, COLUMNS, step, state, (4, -1, ("x", 1)))[0][0]), "0")
        self.assertEqual((step, state), before)


if __name__ == "__main__":
    unittest.main()
