import itertools
import unittest

from oncestream.values import is_columns, is_name, is_row, is_value, kept_text, kind_of, rank, ranks
from tests.makers import ANYTHING, COLUMNS, within

LETTERS = "abcdefghijklmnopqrstuvwxyz"
GOOD = LETTERS + LETTERS.upper() + "0123456789" + " -_"


class Values(unittest.TestCase):
    def test_each_sign(self):
        for number in list(range(0, 300)) + [0x3b1, 0x661, 0xff21]:
            sign = chr(number)
            self.assertIs(is_value(sign), sign in GOOD, repr(sign))
            self.assertIs(is_value("abc" + sign), sign in GOOD, repr(sign))
            self.assertIs(is_value(sign + "abc"), sign in GOOD, repr(sign))

    def test_lengths_of_texts(self):
        for length, right in ((0, True), (1, True), (11, True), (12, True), (13, False), (200, False)):
            self.assertIs(is_value("a" * length), right)

    def test_integers_of_any_size_and_none(self):
        for value in (0, 1, -1, 10 ** 59, -10 ** 59, 10 ** 400, None):
            self.assertIs(is_value(value), True)

    def test_what_is_no_value(self):
        for value in (True, False, (), (1,), [], [1], {}, {"a": 1}, ("a",), within(30)):
            self.assertIs(is_value(value), False, value)

    def test_kinds(self):
        self.assertEqual([kind_of(value) for value in (None, 0, -5, 10 ** 50, "", "a")],
                         ["none", "number", "number", "number", "text", "text"])

    def test_kept_text(self):
        for length in (0, 1, 11, 12, 13, 24, 100):
            text = (GOOD * 2)[:length]
            self.assertEqual(kept_text(text), text[:12])
            self.assertLessEqual(len(kept_text(text)), 12)


class Ranks(unittest.TestCase):
    ASCENDING = (None, -10 ** 59, -10, -9, -1, 0, 1, 2, 9, 10, 10 ** 59, "", " ", "-", "0", "1", "A", "Z", "_", "a", "aa",
                 "ab", "b")

    def test_the_order_of_values(self):
        for one, other in itertools.combinations(range(len(self.ASCENDING)), 2):
            self.assertLess(rank(self.ASCENDING[one]), rank(self.ASCENDING[other]))
        for value in self.ASCENDING:
            self.assertIsInstance(rank(value), tuple)
            self.assertEqual(rank(value), rank(value))

    def test_unlike_values_have_unlike_ranks(self):
        self.assertEqual(len({rank(value) for value in self.ASCENDING}), len(self.ASCENDING))

    def test_tuples_of_values(self):
        some = (None, -1, 3, "", "b")
        tuples = [values for many in (0, 1, 2) for values in itertools.product(some, repeat=many)]
        place = {value: at for at, value in enumerate(some)}
        for one in tuples:
            for other in tuples:
                awaited = [place[value] for value in one] < [place[value] for value in other]
                self.assertIs(ranks(one) < ranks(other), awaited, (one, other))
                self.assertIs(ranks(one) == ranks(other), one == other)
        self.assertEqual(ranks(()), ())
        self.assertEqual(ranks((None, 3, "a")), (rank(None), rank(3), rank("a")))


class Names(unittest.TestCase):
    def test_lengths(self):
        for length, right in ((0, False), (1, True), (7, True), (8, True), (9, False)):
            self.assertIs(is_name("a" * length), right)

    def test_each_sign(self):
        for number in range(0, 300):
            self.assertIs(is_name(chr(number)), chr(number) in LETTERS)
            self.assertIs(is_name("ab" + chr(number)), chr(number) in LETTERS)

    def test_anything(self):
        for value in ANYTHING:
            self.assertIs(is_name(value), value in ("a", "out", "even") and isinstance(value, str), value)


class Columns(unittest.TestCase):
    def test_right_ones(self):
        eight = tuple((letter, "text") for letter in "abcdefgh")
        for value in ((), (("a", "text"),), (("a", "number"),), COLUMNS, eight, (("from", "number"), ("to", "text"))):
            self.assertIs(is_columns(value), True, value)

    def test_wrong_ones(self):
        nine = tuple((letter, "text") for letter in "abcdefghi")
        for value in (nine, (("a", "text"), ("a", "text")), (("a", "text"), ("a", "number")), (("a", "none"),),
                      (("a", ""),), (("a", None),), (("a", ["text"]),), (("A", "text"),), (("", "text"),),
                      (("abcdefghi", "text"),), ((1, "text"),), (["a", "text"],), [("a", "text")], (("a",),),
                      (("a", "text", "text"),), ("a", "text"), (("a", "text"), None), [], {}, None, True, 0, "", "ab",
                      ("ab", "cd"), (("a", "text"), ("b", "Text"))):
            self.assertIs(is_columns(value), False, value)

    def test_anything(self):
        for value in ANYTHING:
            self.assertIs(is_columns(value), value in ((), (("a", "text"),)) and isinstance(value, tuple), value)


class Rows(unittest.TestCase):
    def test_times(self):
        for time, right in ((0, True), (-1, False), (10 ** 8, True), (10 ** 8 + 1, False), (True, False), (False, False),
                            (None, False), ("0", False), ([], False), (10 ** 59, False)):
            self.assertIs(is_row((), (time, 1, ())), right, time)

    def test_signs(self):
        for sign, right in ((1, True), (-1, True), (0, False), (2, False), (-2, False), (True, False), (False, False),
                            (None, False), ("1", False), ((), False)):
            self.assertIs(is_row((), (5, sign, ())), right, sign)

    def test_values(self):
        columns = (("a", "text"), ("b", "number"))
        for values, right in ((("x", 1), True), ((None, None), True), ((None, 1), True), (("x", None), True),
                              (("", 10 ** 59), True), ((1, 1), False), (("x", "y"), False), ((1, "x"), False),
                              (("x", True), False), (("a" * 13, 1), False), (("a.b", 1), False), (["x", 1], False),
                              (("x",), False), (("x", 1, 1), False), ((), False), (None, False), (("x", (1,)), False)):
            self.assertIs(is_row(columns, (5, 1, values)), right, values)

    def test_forms(self):
        for value in ([5, 1, ()], (5, 1), (5, 1, (), ()), (), None, {}, "abc", (5, 1, []), ((), (), ())):
            self.assertIs(is_row((), value), False, value)
        self.assertIs(is_row((), (5, 1, ())), True)
        self.assertIs(is_row((("a", "text"),), (5, 1, ())), False)

    def test_anything(self):
        for value in ANYTHING + (within(30),):
            self.assertIs(is_row(COLUMNS, value), False)
            self.assertIs(is_row((), (0, 1, value)), value == () and isinstance(value, tuple))


if __name__ == "__main__":
    unittest.main()
