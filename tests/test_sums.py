import itertools
import unittest

from oncestream.sums import (add, add_all, both, can_part, empty, fresh, is_how, is_lot, is_tally, judge_shown, less, merged,
                             parting, put, rows_in, second_hows, shown, tell, told)
from oncestream.values import rank
from tests.makers import ANYTHING, a_draw, within
from tests.untouched import looked_at

HOWS = ("count", "sum", "least", "greatest")
NUMBERS = (None, -7, -1, 0, 1, 2, 10, 10 ** 59)
GIVENS = NUMBERS + ("", " ", "-", "Z", "a", "b")


def plain_tally(how, pairs):
    """A tally by its definition, of all that has come."""
    if how == "count":
        return sum(sign for _, sign in pairs)
    if how == "sum":
        return sum(sign * given for given, sign in pairs if given is not None)
    found = []
    for given in {given for given, _ in pairs if given is not None}:
        n = sum(sign for other, sign in pairs if other == given)
        if n != 0:
            found.append((given, n))
    return tuple(sorted(found, key=lambda pair: rank(pair[0])))


def plain_tell(how, tally):
    if how in ("count", "sum"):
        return tally
    there = [given for given, n in tally if n > 0]
    return ([None] + there)[-1] if how == "greatest" else (there + [None])[0]


def some_pairs(draw, how, most):
    givens = NUMBERS if how == "sum" else draw.choice((GIVENS, (None, 1, 2), ("a", 1, None)))
    return [(draw.choice(givens), draw.choice((1, 1, -1))) for _ in range(draw.randint(0, most))]


class Tallies(unittest.TestCase):
    def test_is_how(self):
        for how in HOWS:
            self.assertIs(is_how(how), True)
        for value in ANYTHING + ("Count", "counts", "most", "", "count ", ("count",), ["sum"], within(30), 10 ** 59):
            self.assertIs(is_how(value), False, value)

    def test_integers_are_tallies_of_count_and_sum(self):
        for how in ("count", "sum"):
            for value in (0, 1, -1, -7, 10 ** 59, -10 ** 59, 10 ** 400):
                self.assertIs(is_tally(how, value), True)
            for value in ANYTHING + (((2, 1),), "0", [0], (0,), within(30)):
                is_integer = isinstance(value, int) and not isinstance(value, bool)
                self.assertIs(is_tally(how, value), is_integer, value)

    def test_tallies_of_least_and_greatest(self):
        right = ((), ((2, 1),), ((2, -1),), ((2, 10 ** 59),), ((-3, 1), (2, 5), ("", 1), ("a", -2)), ((0, 1), (1, 1), (10, 1)),
                 (("Z", 1), ("a", 1)), tuple((k, 1) for k in range(200)), ((9, 1), (10, 1)))
        wrong = (((2, 0),), ((None, 1),), ((None, 1), (2, 1)), ((2, 1), (2, 1)), ((2, 1), (2, -1)), ((5, 1), (2, 1)), (("a", 1), (2, 1)),
                 (("b", 1), ("a", 1)), ((2, True),), ((2, False),), ((True, 1),), ((False, 1),), ((2, None),), ((2, "1"),), ((2, (1,)),),
                 ((2, 1, 1),), ((2,),), ((),), ([2, 1],), [(2, 1)], [], {}, {2: 1}, (2, 1), 2, 0, None, True, "", (("a.b", 1),),
                 (("a" * 13, 1),), (((2,), 1),), (([2], 1),), (({}, 1),), ((2, 1), 3), ((2, 1), None), within(30), (within(28),))
        for how in ("least", "greatest"):
            for value in right:
                self.assertIs(is_tally(how, value), True, value)
            for value in wrong + tuple(value for value in ANYTHING if value != ()):
                self.assertIs(is_tally(how, value), False, value)

    def test_empty(self):
        self.assertEqual([empty(how) for how in HOWS], [0, 0, (), ()])

    def test_one_more(self):
        for how, tally, given, sign, awaited in (
            ("count", 4, None, 1, 5), ("count", 4, "a", -1, 3), ("count", 0, 7, -1, -1), ("sum", 4, 3, 1, 7), ("sum", 4, 3, -1, 1),
            ("sum", 4, None, -1, 4), ("sum", 0, -5, -1, 5), ("sum", 1, 10 ** 59, 1, 10 ** 59 + 1),
            ("least", (), 2, 1, ((2, 1),)), ("least", (), 2, -1, ((2, -1),)), ("least", ((2, 1),), 2, -1, ()), ("least", ((2, -1),), 2, 1, ()),
            ("least", ((2, 1),), 2, 1, ((2, 2),)), ("least", ((2, -1),), 2, -1, ((2, -2),)), ("least", ((2, 2),), 2, -1, ((2, 1),)),
            ("least", ((2, 1),), None, 1, ((2, 1),)), ("least", (), None, -1, ()), ("least", ((2, 1),), 1, 1, ((1, 1), (2, 1))),
            ("least", ((2, 1),), 3, 1, ((2, 1), (3, 1))), ("least", ((2, 1), (9, 1)), 5, -1, ((2, 1), (5, -1), (9, 1))),
            ("least", ((2, 1), ("a", 1)), "", 1, ((2, 1), ("", 1), ("a", 1))), ("least", (("a", 1),), 10 ** 59, 1, ((10 ** 59, 1), ("a", 1))),
        ):
            self.assertEqual(looked_at(self, add, how, tally, given, sign), awaited)
            if how == "least":
                self.assertEqual(add("greatest", tally, given, sign), awaited)

    def test_one_behind_another(self):
        draw = a_draw(41)
        for _ in range(400):
            how = draw.choice(HOWS)
            pairs = some_pairs(draw, how, 12)
            tally = empty(how)
            for at, (given, sign) in enumerate(pairs):
                tally = add(how, tally, given, sign)
                self.assertEqual(tally, plain_tally(how, pairs[:at + 1]))
                self.assertIs(is_tally(how, tally), True)
            self.assertEqual(looked_at(self, add_all, how, empty(how), pairs), tally)
            self.assertEqual(add_all(how, empty(how), tuple(pairs)), tally)
            cut = draw.randint(0, len(pairs))
            self.assertEqual(add_all(how, add_all(how, empty(how), pairs[:cut]), pairs[cut:]), tally)
            self.assertEqual(add_all(how, tally, []), tally)

    def test_any_sequence(self):
        for pairs in (((1, 1), (1, -1), (2, -1), (2, 1), (None, 1)), ((5, -1), (5, -1), (5, 1), ("a", 1), (3, 1))):
            for how in HOWS[2:] + ("count",):
                tallies = {add_all(how, empty(how), list(order)) for order in itertools.permutations(pairs)}
                self.assertEqual(tallies, {plain_tally(how, pairs)})

    def test_what_is_taken_back_leaves_nothing(self):
        draw = a_draw(42)
        for _ in range(100):
            how = draw.choice(HOWS)
            tally = add_all(how, empty(how), some_pairs(draw, how, 8))
            given = draw.choice(NUMBERS if how == "sum" else GIVENS)
            for sign in (1, -1):
                self.assertEqual(add(how, add(how, tally, given, sign), given, -sign), tally)

    def test_put_together(self):
        draw = a_draw(43)
        for _ in range(300):
            how = draw.choice(HOWS)
            lots = [some_pairs(draw, how, 6) for _ in range(3)]
            one, two, three = [add_all(how, empty(how), lot) for lot in lots]
            awaited = plain_tally(how, lots[0] + lots[1] + lots[2])
            self.assertEqual(both(how, both(how, one, two), three), awaited)
            self.assertEqual(both(how, one, both(how, two, three)), awaited)
            self.assertEqual(both(how, three, both(how, two, one)), awaited)
            self.assertEqual(looked_at(self, both, how, one, two), plain_tally(how, lots[0] + lots[1]))
            self.assertEqual((both(how, one, empty(how)), both(how, empty(how), one)), (one, one))
            rest = looked_at(self, less, how, one, two)
            self.assertEqual(rest, plain_tally(how, lots[0] + [(given, -sign) for given, sign in lots[1]]))
            self.assertEqual((both(how, rest, two), both(how, two, rest)), (one, one))
            self.assertEqual((less(how, one, one), less(how, one, empty(how))), (empty(how), one))

    def test_tell(self):
        for tally, least, greatest in (
            ((), None, None), (((5, -1),), None, None), (((5, 1),), 5, 5), (((2, -1), (5, 1), (7, -3)), 5, 5),
            (((2, 1), (5, -1), ("a", 2)), 2, "a"), (((2, 1), (5, 3), ("a", -2)), 2, 5), (((0, 1), ("", 1)), 0, ""), (((-1, 1), (0, 1)), -1, 0),
        ):
            self.assertEqual((tell("least", tally), tell("greatest", tally)), (least, greatest))
        for how in ("count", "sum"):
            self.assertEqual([tell(how, tally) for tally in (0, -1, 7, 10 ** 59)], [0, -1, 7, 10 ** 59])
        draw = a_draw(44)
        for _ in range(200):
            how = draw.choice(HOWS)
            tally = add_all(how, empty(how), some_pairs(draw, how, 10))
            self.assertEqual(tell(how, tally), plain_tell(how, tally))

    def test_numbers_and_texts_in_one_tally(self):
        tally = add_all("least", (), [("b", 1), (10, 1), (9, 1), ("", 1), ("Z", 1), (-1, 1)])
        self.assertEqual(tally, ((-1, 1), (9, 1), (10, 1), ("", 1), ("Z", 1), ("b", 1)))
        self.assertEqual((tell("least", tally), tell("greatest", tally)), (-1, "b"))

    def test_a_tally_of_sum_can_be_0_with_something_in_it(self):
        self.assertEqual(add_all("sum", 0, [(3, 1), (2, -1), (1, -1)]), 0)


class Lots(unittest.TestCase):
    def rows(self, draw, hows, most):
        many = draw.randint(0, most)
        return [(tuple(draw.choice(NUMBERS if how == "sum" else GIVENS) for how in hows), draw.choice((1, 1, -1))) for _ in range(many)]

    def lot(self, hows, rows):
        found = fresh(hows)
        for givens, sign in rows:
            found = put(hows, found, givens, sign)
        return found

    def plain_lot(self, hows, rows):
        return (len(rows), tuple(plain_tally(how, [(givens[at], sign) for givens, sign in rows]) for at, how in enumerate(hows)))

    def test_fresh(self):
        self.assertEqual(looked_at(self, fresh, ()), (0, ()))
        self.assertEqual(fresh(HOWS), (0, (0, 0, (), ())))
        self.assertEqual(fresh(("least", "least", "count")), (0, ((), (), 0)))

    def test_put(self):
        self.assertEqual(looked_at(self, put, HOWS, fresh(HOWS), ("x", 4, "a", 2), -1), (1, (-1, -4, (("a", -1),), ((2, -1),))))
        self.assertEqual(put((), (3, ()), (), -1), (4, ()))
        self.assertEqual(put(("count", "sum"), (1, (1, 5)), (None, None), 1), (2, (2, 5)))

    def test_a_row_and_its_taking_back_leave_two_rows(self):
        hows = ("least", "count", "sum")
        lot = put(hows, put(hows, fresh(hows), (5, 5, 5), 1), (5, 5, 5), -1)
        self.assertEqual(lot, (2, ((), 0, 0)))
        self.assertEqual((rows_in(lot), told(hows, lot), is_lot(hows, lot)), (2, (None, 0, 0), True))

    def test_of_many(self):
        draw = a_draw(45)
        for _ in range(200):
            hows = tuple(draw.choice(HOWS) for _ in range(draw.randint(0, 4)))
            rows = [self.rows(draw, hows, 5) for _ in range(3)]
            one, two, three = [self.lot(hows, some) for some in rows]
            self.assertEqual(one, self.plain_lot(hows, rows[0]))
            whole = self.plain_lot(hows, rows[0] + rows[1] + rows[2])
            self.assertEqual(merged(hows, merged(hows, one, two), three), whole)
            self.assertEqual(merged(hows, three, merged(hows, two, one)), whole)
            self.assertEqual((looked_at(self, merged, hows, one, fresh(hows)), merged(hows, fresh(hows), one)), (one, one))
            self.assertEqual(rows_in(whole), sum(len(some) for some in rows))
            self.assertEqual(told(hows, whole), tuple(plain_tell(how, tally) for how, tally in zip(hows, whole[1])))
            self.assertIs(is_lot(hows, whole), True)

    def test_is_lot(self):
        hows = ("count", "least")
        for value in ((0, (0, ())), (3, (-7, ((2, 1),))), (0, (5, ((2, 1),))), (10 ** 59, (10 ** 59, ((1, -1), ("a", 9))))):
            self.assertIs(is_lot(hows, value), True, value)
        for value in (
            (-1, (0, ())), (True, (0, ())), (False, (0, ())), (None, (0, ())), ("0", (0, ())), (0, (True, ())), (0, (None, ())), (0, ((), ())),
            (0, (0, 0)), (0, ((), 0)), (0, (0, ((2, 0),))), (0, (0, ((2, 1), (2, 1)))), (0, (0, ((2, True),))), (0, (0, [])), (0, [0, ()]),
            [0, (0, ())], (0, (0,)), (0, (0, (), ())), (0, ()), (0,), (0, (0, ()), 0), (), None, 0, {}, {"a": 1}, (0, {}), ((0, (0, ())),), within(30),
        ):
            self.assertIs(is_lot(hows, value), False, value)
        self.assertEqual([is_lot((), value) for value in ((0, ()), (7, ()), (0, (0,)), (0, []), ((), 0))], [True, True, False, False, False])
        for how in HOWS:
            for value in ANYTHING:
                self.assertIs(is_lot((how,), (0, (value,))), is_tally(how, value))
                self.assertIs(is_lot((how,), value), False)


class InTwoSteps(unittest.TestCase):
    def test_can_part(self):
        for many in range(4):
            for hows in itertools.product(HOWS, repeat=many):
                self.assertIs(can_part(hows), "least" not in hows and "greatest" not in hows)
                self.assertEqual(second_hows(hows), ("sum",) * many)

    def test_whatever_way_rows_are_dealt(self):
        draw = a_draw(46)
        for _ in range(200):
            hows = tuple(draw.choice(("count", "sum")) for _ in range(draw.randint(0, 3)))
            rows = [(tuple(draw.choice(NUMBERS) for _ in hows), draw.choice((1, -1))) for _ in range(draw.randint(0, 9))]
            lots = [fresh(hows) for _ in range(draw.randint(1, 4))]
            whole, second = fresh(hows), fresh(second_hows(hows))
            for givens, sign in rows:
                at = draw.randrange(len(lots))
                lots[at] = put(hows, lots[at], givens, sign)
                whole = put(hows, whole, givens, sign)
            for lot in lots:
                if rows_in(lot) > 0 or draw.random() < 0.5:
                    second = put(second_hows(hows), second, told(hows, lot), 1)
            self.assertEqual(told(second_hows(hows), second), told(hows, whole))

    def test_parting(self):
        for how in ("least", "greatest"):
            apart = looked_at(self, parting, how)
            self.assertEqual(apart, ([(1, 1)], [(1, -1)]))
            told_apart = [tell(how, add_all(how, (), pairs)) for pairs in apart]
            second = add_all(how, (), [(given, 1) for given in told_apart if given is not None])
            self.assertNotEqual(tell(how, second), tell(how, add_all(how, (), apart[0] + apart[1])))


class Papers(unittest.TestCase):
    PAIRS = [(5, 1), (2, 1), (2, -1), (5, 1), (None, 1), ("a", -1)]

    def test_shown(self):
        for pairs, least, greatest in (
            ([], ("none",), ("none",)), ([(None, 1)], ("none",), ("none",)), ([(5, -1)], ("none",), ("none",)), ([(5, 1), (5, -1)], ("none",), ("none",)),
            (self.PAIRS, ("is", 5, (0, 3)), ("is", 5, (0, 3))), ([(1, 1), ("a", 1)], ("is", 1, (0,)), ("is", "a", (1,))),
            ([(1, -1), (1, 1), (0, 1), (1, 1)], ("is", 0, (2,)), ("is", 1, (0, 1, 3))), ([(0, 1)], ("is", 0, (0,)), ("is", 0, (0,))),
        ):
            self.assertEqual(looked_at(self, shown, "least", pairs), least)
            self.assertEqual(looked_at(self, shown, "greatest", pairs), greatest)
            self.assertEqual(shown("least", tuple(pairs)), least)

    def test_papers_are_right(self):
        draw = a_draw(47)
        for _ in range(200):
            how = draw.choice(("least", "greatest"))
            pairs = some_pairs(draw, how, 10)
            paper = shown(how, pairs)
            given = plain_tell(how, plain_tally(how, pairs))
            places = tuple(at for at, pair in enumerate(pairs) if pair[0] == given)
            self.assertEqual(paper, ("none",) if given is None else ("is", given, places))
            self.assertIsNone(looked_at(self, judge_shown, how, pairs, paper))
            self.assertIsNone(judge_shown(how, tuple(pairs), paper))

    def test_all_papers(self):
        """Each paper that could be, against the words of the document."""
        draw = a_draw(48)
        for _ in range(60):
            how = draw.choice(("least", "greatest"))
            pairs = [(draw.choice((None, 1, 2, "a")), draw.choice((1, -1))) for _ in range(draw.randint(0, 3))]
            right = shown(how, pairs)
            told_right = None if right == ("none",) else right[1]
            places = [places for many in range(4) for places in itertools.combinations(range(4), many)]
            for value in [("none",)] + [("is", given, at) for given in (1, 2, "a", 3) for at in places]:
                awaited = ("beyond", told_right)
                if value == right:
                    awaited = None
                elif value != ("none",):
                    there = tuple(at for at, pair in enumerate(pairs) if pair[0] == value[1])
                    signs = sum(pairs[at][1] for at in there)
                    if value[2] != there:
                        awaited = ("places", there)
                    elif signs <= 0:
                        awaited = ("signs", signs)
                self.assertEqual(judge_shown(how, pairs, value), awaited)

    def test_each_fault_with_a_later_one_behind_it(self):
        pairs = [(5, 1), (2, 1), (2, -1), (5, 1), (9, 1)]
        for value, awaited in (
            (("is", 2, [1]), ("form",)), (("is", 2, (2, 1)), ("form",)), (("is", 2, (1,)), ("places", (1, 2))), (("is", 2, ()), ("places", (1, 2))),
            (("is", 2, (1, 2, 3)), ("places", (1, 2))), (("is", 2, (1, 2)), ("signs", 0)), (("is", 7, (0,)), ("places", ())), (("is", 7, ()), ("signs", 0)),
            (("is", 9, (3,)), ("places", (4,))), (("is", 9, (4,)), ("beyond", 5)), (("is", 5, (0, 3)), None), (("none",), ("beyond", 5)),
            (("is", 5, (0, 10 ** 59)), ("places", (0, 3))), (("is", 10 ** 59, ()), ("signs", 0)),
        ):
            self.assertEqual(judge_shown("least", pairs, value), awaited)
        self.assertEqual(judge_shown("greatest", pairs, ("is", 5, (0, 3))), ("beyond", 9))
        self.assertEqual(judge_shown("least", [(5, -1), (5, -1), (2, 1)], ("is", 5, (0, 1))), ("signs", -2))
        self.assertEqual(judge_shown("least", [], ("is", 5, ())), ("signs", 0))
        self.assertEqual(judge_shown("least", [(0, 1)], ("none",)), ("beyond", 0))
        self.assertEqual(judge_shown("least", [("", 1)], ("none",)), ("beyond", ""))

    def test_forms(self):
        wrong = ("none", ["none"], ("none", None), ("none", ()), (), ("is",), ("is", 1), ("is", 1, (0,), 0), ["is", 1, (0,)], ("is", 1, [0]),
                 ("is", 1, 0), ("is", 1, None), ("is", None, ()), ("is", True, (0,)), ("is", False, ()), ("is", 1, (False,)), ("is", 1, (True,)),
                 ("is", 1, (0, 0)), ("is", 1, (1, 0)), ("is", 1, (-1,)), ("is", 1, (None,)), ("is", 1, ("0",)), ("is", 1, ((0,),)),
                 ("is", (1,), (0,)), ("is", [1], (0,)), ("is", "a.b", ()), ("is", "a" * 13, ()), ("Is", 1, (0,)), ("not", 1, (0,)), (1, 1, (0,)),
                 ("no",), (None,), (["none"],), (["is"], 1, (0,)), ({}, 1, (0,)), ({},), within(30), (within(29),))
        for value in wrong + ANYTHING:
            for how in ("least", "greatest"):
                self.assertEqual(judge_shown(how, [(1, 1)], value), ("form",), value)


if __name__ == "__main__":
    unittest.main()
