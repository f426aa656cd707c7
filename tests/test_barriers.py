import collections
import itertools
import unittest

from oncestream.barriers import (before, behind, come, driven, finished, free_channels, is_held, judge_channel, numbers_in,
                                 numbers_left)
from oncestream.errors import BadBarrier
from oncestream.marks import END
from tests.makers import a_draw
from tests.untouched import looked_at
from tests.weaving import a_channel, with_barriers

ALL = [(("a", 0), 0, ("c", 0)), (("a", 1), 0, ("c", 0)), (("b", 0), 1, ("c", 0)), (("b", 1), 1, ("c", 0))]
COLUMNS = (("n", "number"),)

# Operators that show what comes to them: each row as it is and where; how many came; rows that wait for a mark.
LISTED = (lambda: (), lambda state, i, row: (state + ((i, row),), (row, row)), lambda state, mark: (state + (mark,), ((mark, 1, ()),)))
COUNT = (lambda: 0, lambda state, i, row: (state + 1, ()), lambda state, mark: (state, ((mark - 1, 1, (state,)),)))
WAITING = (lambda: (), lambda state, i, row: (tuple(sorted(state + (row,), key=repr)), ()),
           lambda state, mark: (tuple(row for row in state if row[0] >= mark), tuple(row for row in state if row[0] < mark)))


def row(time, *values):
    return ("row", (time, 1, values))


class Come(unittest.TestCase):
    def test_one_input(self):
        for n in (1, 2, 10 ** 9 - 1):
            self.assertEqual(looked_at(self, come, None, ALL[:1], ALL[0], n), (None, True))

    def test_all_orders(self):
        for many in (2, 3, 4):
            for order in itertools.permutations(ALL[:many]):
                waiting = None
                for at, channel in enumerate(order):
                    self.assertIs(is_held(waiting, channel), False)
                    waiting, is_all = looked_at(self, come, waiting, ALL[:many], channel, 7)
                    self.assertEqual((waiting, is_all), (None, True) if at == many - 1 else ((7, tuple(sorted(order[:at + 1]))), False))

    def test_channels_in_a_tuple(self):
        self.assertEqual(come(None, tuple(ALL), ALL[1], 3), ((3, (ALL[1],)), False))
        self.assertEqual(come((3, tuple(ALL[:3])), tuple(ALL), ALL[3], 3), (None, True))

    def test_many_inputs(self):
        channels, waiting = [(k,) for k in range(32)], None
        for k in range(31, 0, -1):
            waiting, is_all = come(waiting, channels, (k,), 5)
            self.assertEqual((waiting, is_all), ((5, tuple((j,) for j in range(k, 32))), False))
        self.assertEqual(come(waiting, channels, (0,), 5), (None, True))

    def bad(self, waiting, channel, n):
        with self.assertRaises(BadBarrier) as caught:
            come(waiting, ALL, channel, n)
        self.assertEqual(caught.exception.number, n)

    def test_barriers_that_can_not_come(self):
        for waiting in ((4, (ALL[0],)), (4, tuple(ALL[:3])), (4, (ALL[1], ALL[3]))):
            for channel in ALL:
                for n in (1, 3, 5, 10 ** 9 - 1):
                    self.bad(waiting, channel, n)
                if channel in waiting[1]:
                    self.bad(waiting, channel, 4)
                else:
                    self.assertEqual(come(waiting, ALL, channel, 4)[1], len(waiting[1]) == 3)

    def test_what_is_held_and_free(self):
        for many in range(1, 4):
            for here in itertools.combinations(ALL, many):
                waiting = (4, tuple(sorted(here)))
                for channel in ALL:
                    self.assertIs(is_held(waiting, channel), channel in here)
                for channels in (ALL, ALL[::-1]):
                    left = [channel for channel in channels if channel not in here]
                    self.assertEqual(looked_at(self, free_channels, waiting, channels), left)
                    self.assertEqual(looked_at(self, numbers_left, waiting, channels), left)
                    self.assertEqual(free_channels(waiting, tuple(channels)), left)

    def test_nothing_waited_for(self):
        self.assertIs(is_held(None, ALL[0]), False)
        self.assertEqual((looked_at(self, free_channels, None, ALL), looked_at(self, numbers_left, None, ALL)), (ALL, []))
        self.assertEqual((free_channels(None, ALL[::-1]), free_channels(None, []), numbers_left(None, [])), (ALL[::-1], [], []))


class Channels(unittest.TestCase):
    THINGS = (row(3, 5), ("mark", 4), ("barrier", 1), row(4, 6), ("barrier", 2), ("mark", 4), ("barrier", 2), row(9))

    def test_before_and_behind(self):
        for n, at in ((1, 2), (2, 4)):
            self.assertEqual(looked_at(self, before, self.THINGS, n), self.THINGS[:at])
            self.assertEqual(looked_at(self, behind, self.THINGS, n), self.THINGS[at + 1:])
        for n in (3, 4, 9):
            self.assertEqual((before(self.THINGS, n), behind(self.THINGS, n)), (self.THINGS, ()))
        self.assertEqual((before((), 1), behind((), 1)), ((), ()))

    def test_a_barrier_at_the_beginning_and_at_the_end(self):
        for things, ahead, after in (((("barrier", 4),), (), ()), ((("barrier", 4), row(1)), (), (row(1),)), ((row(1), ("barrier", 4)), (row(1),), ()),
                                     ((("mark", 4), ("barrier", 4)), (("mark", 4),), ()), ((("barrier", 4), ("barrier", 4)), (), (("barrier", 4),))):
            self.assertEqual((before(things, 4), behind(things, 4)), (ahead, after))

    def test_numbers_in(self):
        self.assertEqual(looked_at(self, numbers_in, self.THINGS), (1, 2, 2))
        self.assertEqual((numbers_in(()), numbers_in((row(1), ("mark", 7))), numbers_in((("barrier", 9), ("barrier", 3)))), ((), (), (9, 3)))


class Judge(unittest.TestCase):
    def judged(self, things, mark, awaited):
        self.assertEqual(looked_at(self, judge_channel, things, mark), awaited, (things, mark))

    def test_right_ones(self):
        for things, mark in (((), 0), ((), END), ((row(5),), 5), ((row(5), row(5), row(7), row(5)), 5), ((("mark", 5), row(5), ("mark", 5), ("mark", 6), row(6)), 5), ((("barrier", 1),), END),
                             ((("barrier", 1), ("barrier", 2), ("barrier", 7)), 0), ((("mark", END),), END), ((row(0), ("mark", 0)), 0), ((row(2 * 10 ** 8), ("mark", 3), row(3)), 0)):
            self.judged(things, mark, None)

    def test_each_fault(self):
        for things, mark, awaited in (
            ((row(4),), 5, ("row", 0)), ((row(5), row(4)), 5, ("row", 1)), ((("mark", 8), row(7)), 5, ("row", 1)), ((("mark", 8), row(8), ("barrier", 1), row(7)), 5, ("row", 3)),
            ((("mark", 4),), 5, ("mark", 0)), ((("mark", 8), ("mark", 7)), 5, ("mark", 1)), ((("mark", 8), ("barrier", 1), ("mark", 0)), 0, ("mark", 2)),
            ((("barrier", 0),), 0, ("barrier", 0)), ((("barrier", 1), ("barrier", 1)), 0, ("barrier", 1)), ((("barrier", 3), row(1), ("barrier", 2)), 0, ("barrier", 2)),
            ((("barrier", 2), ("barrier", 3), ("barrier", 3)), 0, ("barrier", 2)), ((("barrier", -1),), 0, ("barrier", 0)),
        ):
            self.judged(things, mark, awaited)

    def test_each_fault_with_a_later_one_behind_it(self):
        faults = {"row": row(4), "mark": ("mark", 4), "barrier": ("barrier", 2)}
        for order in itertools.permutations(faults):
            things = (("mark", 5), ("barrier", 2)) + tuple(faults[word] for word in order)
            self.judged(things, 0, (order[0], 2))

    def test_a_row_changes_no_mark(self):
        self.judged((row(9), row(5), ("mark", 5)), 5, None)

    def test_of_many(self):
        draw = a_draw(141)
        for _ in range(300):
            things = tuple(draw.choice((row(draw.randint(0, 6)), ("mark", draw.randint(0, 6)), ("barrier", draw.randint(1, 4)))) for _ in range(draw.randint(0, 5)))
            mark, awaited = draw.randint(0, 3), None
            for at, (word, told) in enumerate(things):
                marks = [mark] + [thing[1] for thing in things[:at] if thing[0] == "mark"]
                numbers = [0] + [thing[1] for thing in things[:at] if thing[0] == "barrier"]
                if word == "row" and told[0] < marks[-1] or word == "mark" and told < marks[-1] or word == "barrier" and told <= numbers[-1]:
                    awaited = (word, at)
                    break
            self.judged(things, mark, awaited)


def plainly_driven(operator, inputs, picks):
    """A task run alone, told once more in other words."""
    fresh, put, marked = operator
    left, state, sent, kept, told, last, here = [collections.deque(things) for things in inputs], fresh(), [], [], 0, {}, []
    for pick in picks:
        free = [i for i, things in enumerate(left) if things and i not in here]
        if not free:
            break
        i = free[pick % len(free)]
        word, thing = left[i].popleft()
        rows = ()
        if word == "row":
            state, rows = put(state, i, thing)
        elif word == "mark":
            last[i] = max(thing, last.get(i, 0))
        sent += [("row", one) for one in rows]
        if word == "mark" and len(last) == len(inputs) and min(last.values()) > told:
            told = min(last.values())
            state, rows = marked(state, told)
            sent += [("row", one) for one in rows] + [("mark", told)]
        if word == "barrier":
            here.append(i)
            if len(here) == len(inputs):
                here = []
                kept.append((thing, state))
                sent.append(("barrier", thing))
    return tuple(sent), tuple(kept), state


class Driven(unittest.TestCase):
    def test_rows_and_marks(self):
        sent, kept, state = driven(LISTED, ((row(3), ("mark", 4), row(5)),), (0, 0, 0))
        self.assertEqual(sent, (row(3), row(3), ("row", (4, 1, ())), ("mark", 4), row(5), row(5)))
        self.assertEqual((kept, state), ((), ((0, (3, 1, ())), 4, (0, (5, 1, ())))))

    def test_marks_that_do_not_rise(self):
        self.assertEqual(driven(COUNT, ((("mark", 0), ("mark", 3), ("mark", 3), ("mark", 5)),), (0,) * 4)[0], (("row", (2, 1, (0,))), ("mark", 3), ("row", (4, 1, (0,))), ("mark", 5)))
        two = ((("mark", 3), ("mark", 9)), (("mark", 5), ("mark", 7)))
        # A mark has come on both only when the third thing is taken; then the least of them rises.
        self.assertEqual([thing for thing in driven(COUNT, two, (0, 0, 0, 0))[0] if thing[0] == "mark"], [("mark", 5), ("mark", 7)])
        self.assertEqual([thing for thing in driven(COUNT, two, (1, 0, 1, 0))[0] if thing[0] == "mark"], [("mark", 3), ("mark", 7)])
        self.assertEqual(driven(COUNT, two, (0, 0)), ((), (), 0))

    def test_end_on_all_inputs(self):
        two = ((row(3), ("mark", END)), (("mark", END), ))
        self.assertEqual(driven(COUNT, two, (0, 0, 0)), ((("row", (END - 1, 1, (1,))), ("mark", END)), (), 1))
        self.assertEqual(driven(COUNT, two, (1, 0)), ((), (), 1))

    def test_picks(self):
        three = ((row(0), row(1)), (), (row(2), row(3)))
        for picks, awaited in (((), ()), ((0,), (0,)), ((1,), (2,)), ((2,), (0,)), ((10 ** 9 - 1,), (2,)), ((1, 1, 1), (2, 3, 0)), ((0, 0, 0, 0, 0), (0, 1, 2, 3)), ((0, 0, 7, 10 ** 8), (0, 1, 2, 3)), ((0, 1, 0, 1), (0, 2, 1, 3))):
            self.assertEqual([one[0] for _, one in driven(LISTED, three, picks)[2]], list(awaited))

    def test_inputs_without_things(self):
        self.assertEqual((driven(COUNT, (), (0, 5)), driven(COUNT, ((), ()), (0, 5)), finished(COUNT, ()), finished(COUNT, ((),))), (((), (), 0),) * 4)
        self.assertEqual(finished(COUNT, ((row(3), ("mark", 5)), ())), ((), (), 1))

    def test_what_is_held(self):
        two = ((("barrier", 1), row(1), row(1)), (row(2), ("barrier", 1), row(2)))
        # While the first input is held, every pick takes from the second one.
        for picks, awaited in (((0, 0, 0, 0, 0, 0), [1, 0, 0, 1]), ((0, 9, 4, 1, 0, 0), [1, 1, 0, 0]), ((1, 1, 0, 1, 0, 0), [1, 1, 0, 0])):
            sent, kept, state = driven(LISTED, two, picks)
            self.assertEqual([i for i, _ in state], awaited)
            self.assertEqual(kept, ((1, ((1, (2, 1, ())),)),))
            self.assertEqual([thing for thing in sent if thing[0] == "barrier"], [("barrier", 1)])
        self.assertEqual(driven(LISTED, two, (0, 0))[1:], ((), ((1, (2, 1, ())),)))

    def test_all_that_is_left_is_held(self):
        two = ((("barrier", 1), row(1)), ())
        self.assertEqual((driven(COUNT, two, (0,) * 9), finished(COUNT, two)), (((), (), 0), ((), (), 0)))

    def test_the_last_barrier_comes_on_each_input(self):
        for order in itertools.permutations(range(3)):
            inputs = tuple((row(i), ("barrier", 4), ("barrier", 6)) for i in range(3))
            # Picks that first take all rows, then each barrier 4 in this order.
            free, picks = [0, 1, 2], [0, 1, 2]
            for i in order:
                picks.append(free.index(i))
                free.remove(i)
            sent, kept, state = driven(COUNT, inputs, tuple(picks) + (0, 0, 0))
            self.assertEqual((sent, kept, state), ((("barrier", 4), ("barrier", 6)), ((4, 3), (6, 3)), 3))

    def test_bad_barriers(self):
        for inputs, n in ((((("barrier", 1),), (("barrier", 2),)), 2), (((("barrier", 3),), (("barrier", 2),)), 2)):
            for run in (lambda: driven(COUNT, inputs, (0, 0)), lambda: finished(COUNT, inputs)):
                with self.assertRaises(BadBarrier) as caught:
                    run()
                self.assertEqual(caught.exception.number, n)

    def inputs(self, draw):
        numbers = draw.choice(((), (1,), (2, 5), (1, 2, 3)))
        return tuple(with_barriers(draw, a_channel(draw, COLUMNS, 8, draw.choice((None, 9, END))), numbers) for _ in range(draw.randint(1, 4)))

    def test_against_all_told_once_more(self):
        draw = a_draw(142)
        for _ in range(200):
            inputs, operator = self.inputs(draw), draw.choice((LISTED, COUNT, WAITING))
            picks = tuple(draw.choice((0, 1, 2, 3, 10 ** 9 - 1, draw.randrange(10 ** 9))) for _ in range(draw.randint(0, 40)))
            self.assertEqual(driven(operator, inputs, picks), plainly_driven(operator, inputs, picks))
            self.assertEqual(finished(operator, inputs), plainly_driven(operator, inputs, (0,) * 99))

    def test_whatever_is_picked(self):
        draw = a_draw(143)
        for _ in range(100):
            inputs = self.inputs(draw)
            self.assertEqual([judge_channel(things, 0) for things in inputs], [None] * len(inputs))
            whole = finished(WAITING, inputs)
            for _ in range(3):
                sent, kept, state = driven(WAITING, inputs, tuple(draw.randrange(10 ** 9) for _ in range(60)))
                self.assertEqual((kept, state), whole[1:])
                for n, at in kept:
                    cut = finished(WAITING, tuple(before(things, n) for things in inputs))
                    self.assertEqual(at, cut[2])
                    rows = [collections.Counter(thing for thing in before(some, n) if thing[0] == "row") for some in (sent, whole[0], cut[0])]
                    marks = [[thing for thing in before(some, n) if thing[0] == "mark"][-1:] for some in (sent, whole[0], cut[0])]
                    self.assertTrue(rows[0] == rows[1] == rows[2] and marks[0] == marks[1] == marks[2])

    def test_arguments_stay(self):
        inputs = ((row(3), ("mark", 4), ("barrier", 1)), (("mark", 9), ("barrier", 1)))
        told = looked_at(self, driven, COUNT, inputs, (1, 0, 0, 0, 0))
        self.assertEqual(looked_at(self, finished, COUNT, inputs), told)

    def test_many_things(self):
        inputs = tuple(tuple(row(k) for k in range(1000)) + (("mark", END),) for _ in range(2))
        self.assertEqual(finished(COUNT, inputs), ((("row", (END - 1, 1, (2000,))), ("mark", END)), (), 2000))
        self.assertEqual(driven(COUNT, inputs, (10 ** 9 - 1,) * 4000), finished(COUNT, inputs))


if __name__ == "__main__":
    unittest.main()
