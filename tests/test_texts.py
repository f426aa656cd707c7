import unittest

from oncestream.queries import columns_of, judge_query
from oncestream.texts import expression_text, query_text, read_expression, read_query
from tests import earley
from tests.around import Around, place
from tests.makers import ANYTHING, COLUMNS, a_draw, a_query, an_expression, within

A, B, ONE = ("column", "a"), ("column", "b"), ("value", 1)

EXPRESSIONS = (
    (A, "a"), (("column", "abcdefgh"), "abcdefgh"), (("value", 0), "0"), (("value", -1), "-1"), (("value", 10), "10"),
    (("value", 999999999), "999999999"), (("value", -999999999), "-999999999"), (("value", None), "()"), (("value", ""), '""'),
    (("value", "a_B-1 "), '"a_B-1 "'), (("value", "abcdefghijkl"), '"abcdefghijkl"'), (("plus", A, B), "(a + b)"),
    (("less", A, B), "(a - b)"), (("times", A, B), "(a * b)"), (("is", A, B), "(a = b)"), (("below", A, B), "(a < b)"),
    (("and", A, B), "(a & b)"), (("or", A, B), "(a | b)"), (("joined", A, B), "(a ~ b)"), (("not", A), "!a"),
    (("not", ("not", ("plus", A, B))), "!!(a + b)"), (("if", A, B, ONE), "(a ? b : 1)"),
    (("less", ("value", -5), ("value", -6)), "(-5 - -6)"), (("value", "-"), '"-"'), (("value", "()"[:0]), '""'),
    (("is", ("not", ("value", None)), ("if", ("value", ""), ("and", A, B), ONE)), '(!() = ("" ? (a & b) : 1))'),
)

QUERIES = (
    ((("out", "a"),), "out a"),
    ((("a", ("source", ())), ("out", "a")), "a: source -\nout a"),
    ((("a", ("source", (("user", "text"), ("n", "number")))), ("out", "b")), "a: source user text, n number\nout b"),
    ((("out", ("source", (("out", "text"),))), ("out", "out")), "out: source out text\nout out"),
    ((("b", ("keep", "a", ("below", ONE, A))), ("out", "b")), "b: keep a where (1 < a)\nout b"),
    ((("b", ("make", "a", ())), ("c", ("make", "a", (("x", ONE), ("y", ("not", A))))), ("out", "b")),
     "b: make a with -\nc: make a with x = 1, y = !a\nout b"),
    ((("b", ("both", "outer", "o")), ("out", "b")), "b: both outer o\nout b"),
    ((("b", ("sum", "a", (), ("even", 10), ())), ("out", "b")), "b: sum a by - in even 10 with -\nout b"),
    ((("b", ("sum", "a", ("x", "y"), ("sliding", 10, 5), (("c", "count", ONE), ("s", "sum", A), ("l", "least", B),
                                                        ("g", "greatest", ("value", "q"))))), ("out", "b")),
     'b: sum a by x, y in sliding 10 5 with c = count 1, s = sum a, l = least b, g = greatest "q"\nout b'),
    ((("b", ("sum", "a", ("x",), ("session", 7), (("c", "count", ("value", None)),))), ("out", "b")),
     "b: sum a by x in session 7 with c = count ()\nout b"),
    ((("b", ("join", "a", "c", (), 0, 5)), ("d", ("join", "a", "a", ("x", "y"), 999999999, 0)), ("out", "d")),
     "b: join a c by - back 0 ahead 5\nd: join a a by x, y back 999999999 ahead 0\nout d"),
)

# Signs to put in and to exchange: some of each sort, and all that stand in the texts.
SOME = "abostuz0179AZ-_ \"()+*=<&|!?:~,\n.\t%;"


class Writing(unittest.TestCase):
    def test_expressions(self):
        for e, text in EXPRESSIONS:
            self.assertEqual(expression_text(e), text)
            self.assertEqual(read_expression(text), e)

    def test_queries(self):
        for query, text in QUERIES:
            self.assertEqual(query_text(query), text)
            self.assertEqual(read_query(text), query)

    def test_many_expressions(self):
        draw = a_draw(11)
        for _ in range(500):
            e = an_expression(draw, COLUMNS, draw.choice(("number", "text")), draw.choice((1, 5, 20, 60)))
            self.assertEqual(read_expression(expression_text(e)), e)

    def test_many_queries(self):
        draw, texts = a_draw(12), set()
        for _ in range(200):
            query = a_query(draw, draw.randint(1, 12), judge_query, columns_of)
            text = query_text(query)
            self.assertEqual(read_query(text), query)
            self.assertEqual(len(text.split("\n")), len(query))
            texts.add(text)
        self.assertGreater(len(texts), 190)

    def test_what_is_read_need_not_be_a_query(self):
        many = "".join(f"a: keep nowhere where {'!' * k}a\n" for k in range(40)) + "out b"
        self.assertEqual(len(read_query(many)), 41)
        wide = "a: source " + ", ".join(["a text"] * 20) + "\nout a"
        self.assertEqual(read_query(wide), (("a", ("source", (("a", "text"),) * 20)), ("out", "a")))
        self.assertEqual(read_query("b: sum a by x, x in sliding 0 0 with -\nout b")[0][1][2:4], (("x", "x"), ("sliding", 0, 0)))
        e = "(" * 49 + "a" + " + a)" * 49
        self.assertEqual(query_text(read_query(f"b: keep a where {e}\nout b")), f"b: keep a where {e}\nout b")

    def test_a_hundred_parts_within_one_another(self):
        for text in ("!" * 99 + "a", "(" * 99 + "a" + " + 1)" * 99, "(1 + " * 99 + "a" + ")" * 99,
                     "(1 ? 2 : " * 99 + "a" + ")" * 99):
            self.assertEqual(expression_text(read_expression(text)), text)
            for cut in (50, 99, 100, len(text) - 1):
                if cut < len(text) - 1 or text[-1] == ")":
                    self.assertEqual(place(read_expression, text[:cut]), cut if text[:cut] != "!" * 99 + "a" else None)
        deepest = "(" * 120 + "a" + " + 1)" * 120
        self.assertEqual(expression_text(read_expression(deepest)), deepest)


class Places(Around, unittest.TestCase):
    def test_what_is_no_text(self):
        for value in ANYTHING + (within(30), b"a"):
            if not isinstance(value, str):
                self.assertEqual(place(read_query, value), 0)
                self.assertEqual(place(read_expression, value), 0)
        self.assertEqual((place(read_query, ""), place(read_expression, "")), (0, 0))

    def test_told_places_of_expressions(self):
        for text, awaited in (
            ("(a +b)", 4), ("a b", 1), ("a1", 1), ("abcdefghi", 8), ("A", 0), (" a", 0), ("(a+b)", 2), ("( a + b)", 1),
            ("(a + b) ", 7), ("(a / b)", 3), ("00", 1), ("01", 1), ("-0", 1), ("--1", 1), ("-a", 1), ("-", 1), ("1234567890", 9),
            ("-1234567890", 10), ('"abcdefghijklm"', 13), ('"a.b"', 2), ('"a', 2), ('"', 1), ("(", 1), ("()", None), ("() ", 2),
            ("(a ? b)", 6), ("(a ? b : c", 10), ("(a ? b:c)", 6), ("! a", 1), ("!", 1), ("(a ! b)", 3), ("(a & b & c)", 6),
            ("1 ", 1), ("1.5", 1), ("(a + b))", 7), ("a\n", 1), ("\n", 0), ('"a"b', 3), ('""""', 2), ("+", 0), ("\u0661", 0),
            ("\u00b2", 0), ("1\u0661", 1), ('"\u00e9"', 1), ("\u00e9", 0),
        ):
            self.assertEqual(place(read_expression, text), awaited, text)

    def test_told_places_of_queries(self):
        for text, awaited in (
            ("clicks: sours user text", 12), ("out", 3), ("out ", 4), ("out a\n", 5), ("out a ", 5), ("out a\nout a", 5),
            ("out: source -", 13), ("out:", 4), ("outx a", 4), ("ou a", 2), ("a: source -", 11), ("a: source -\n", 12),
            ("a: source -\nout", 15), ("a: source - \nout a", 11), ("a:source -", 2), ("a : source -", 1),
            ("a: source a number,b text", 19), ("a: source a none", 13), ("a: source a numbers", 18), ("a: source", 9),
            ("a: source \n", 10), ("a: keep b where c, d", 17), ("a: make b with c = 1, \nout a", 22), ("a: make b with c=1", 16),
            ("a: sum b by x y in even 5", 14), ("a: sum b by - in sliding 5 with -", 27), ("a: sum b by - in even -5", 22),
            ("a: sum b by - in even 05", 23), ("a: sum b by - in even 1234567890", 31), ("a: sum b by - in sless 5", 19),
            ("a: sum b by -, x in even 5", 13), ("a: sum b by - in even 5 5", 24), ("a: join b c by - back -1", 22),
            ("a: join b c by - back 1 ahead -1", 30), ("a: join b by - back 1 ahead 1", 13), ("a: both b\n", 9),
            ("a: sum b by x in session 5 with c = most 1", 36), ("a: sum b by x in session 5 with c = sum", 39),
            ("a: sum b by x in session 5 with c = sum\n", 39), ("\nout a", 0), ("a: source -\n\nout a", 12),
            ("abcdefghi: source -", 8), ("out abcdefghi", 12), ("a: join b c by - back 0 ahead 5out a", 31),
            ("a: source -\r\nout a", 11),
        ):
            self.assertEqual(place(read_query, text), awaited, text)

    def test_around_each_expression(self):
        for _, text in EXPRESSIONS:
            self.check_around("part", read_expression, expression_text, text, SOME)

    def test_around_each_query(self):
        for _, text in QUERIES:
            self.check_around("query", read_query, query_text, text, SOME)

    def test_two_texts_one_behind_another(self):
        texts = [text for _, text in QUERIES]
        draw = a_draw(13)
        for _ in range(300):
            one, other = draw.choice(texts), draw.choice(texts)
            text = one[:draw.randint(0, len(one))] + other[draw.randint(0, len(other)):]
            self.check("query", read_query, query_text, earley.begun("query"), text)


if __name__ == "__main__":
    unittest.main()
