import itertools
import re
import unittest

from oncestream.errors import BadText
from oncestream.seals import check_of, read_records, read_word, records, sealed, word_text
from tests.makers import a_draw
from tests.untouched import looked_at

SIGNS = "".join(chr(number) for number in range(32, 127))
WORDS = (None, True, False, 0, 1, -1, 7, -7, 10, 100, -100, 10 ** 59, -10 ** 59, "", " ", "a", "~", "N", "i5;", "t1:", "(", ")", "()", "a b", "12", "t0:", "\"'\\%",
         (), (None,), ((),), ((), ()), (0, -1), ("", ("a", ())), (True, False, None), (-7, "a b", (), None), ((("x",),), 5, (("y", 1), (True,))))


def place_in(text):
    """The place that BadText tells of a text, None for a word's text: sign by sign, by what may come next."""
    state, depth, many = "word", 0, ""
    for place, sign in enumerate(text):
        after = None
        if state == "word":
            after = {"N": "end", "T": "end", "F": "end", "i": "integer", "t": "many"}.get(sign)
            if sign == "(":
                after, depth = "word", depth + 1
            if sign == ")" and depth > 0:
                after, depth = "end", depth - 1
        elif state in ("integer", "negative", "digits", "nought"):
            if sign in "123456789" and state != "nought" or sign == "0" and state == "digits":
                after = "digits"
            if state == "integer":
                after = {"0": "nought", "-": "negative"}.get(sign, after)
            if sign == ";" and state in ("digits", "nought"):
                after = "end"
        elif state == "many":
            if sign in "0123456789" and many != "0":
                after, many = "many", many + sign
                if many[0] == "0" and len(many) > 1:
                    after = None
            if sign == ":" and many:
                after, left = "text", int(many)
                many = ""
                after = "text" if left else "end"
        elif state == "text" and sign in SIGNS:
            left -= 1
            after = "text" if left else "end"
        if after is None:
            return place
        state = after
        if state == "end":
            state = "word" if depth else "done"
    return None if state == "done" else len(text)


def deep(depth, inner=()):
    word = inner
    for k in range(depth - 1):
        word = (word,) if k % 3 else ("a", word, None)
    return word


def a_word(draw, depth=4):
    if depth == 0 or draw.random() < 0.5:
        return draw.choice(WORDS[:-10])
    return tuple(a_word(draw, depth - 1) for _ in range(draw.randint(0, 3)))


class Words(unittest.TestCase):
    def test_texts(self):
        for word, text in (
            (None, "N"), (True, "T"), (False, "F"), (0, "i0;"), (1, "i1;"), (-1, "i-1;"), (-70, "i-70;"), (10 ** 20, "i1" + "0" * 20 + ";"), ("", "t0:"), ("a", "t1:a"),
            ("N", "t1:N"), ("t1:a", "t4:t1:a"), ("0123456789", "t10:0123456789"), (" ~", "t2: ~"), ((), "()"), ((None,), "(N)"), ((True, (False, ()), "x"), "(T(F())t1:x)"),
            ((-7, "a b", (), None), "(i-7;t3:a b()N)"),
        ):
            self.assertEqual(looked_at(self, word_text, word), text)
            self.assertEqual(repr(read_word(text)), repr(word))

    def test_each_sign(self):
        self.assertEqual(len(SIGNS), 95)
        for sign in SIGNS:
            self.assertEqual((word_text(sign), read_word("t1:" + sign), word_text((sign,))), ("t1:" + sign, sign, f"(t1:{sign})"))

    def test_back_again(self):
        draw = a_draw(101)
        for word in WORDS + tuple(a_word(draw) for _ in range(200)):
            self.assertEqual(repr(looked_at(self, read_word, word_text(word))), repr(word))
            self.assertIsNone(place_in(word_text(word)))

    def test_kinds_are_told_apart(self):
        self.assertEqual([repr(read_word(word_text(word))) for word in (1, True, 0, False, "1", (1,), ((True,),), "", ())],
                         ["1", "True", "0", "False", "'1'", "(1,)", "((True,),)", "''", "()"])
        texts = [word_text(word) for word in WORDS]
        self.assertEqual(len(set(texts)), len(texts))
        for one, other in itertools.permutations(texts, 2):
            self.assertFalse(other.startswith(one))

    def test_great_ones(self):
        for depth in (1, 2, 40):
            for inner in ((), ("x", 1)):
                self.assertEqual(read_word(word_text(deep(depth, inner))), deep(depth, inner))
        many = tuple(range(1990))
        self.assertEqual(read_word(word_text(many)), many)
        long = SIGNS * 42
        self.assertEqual((word_text(long), read_word(word_text(long))), ("t3990:" + long, long))
        for number in (10 ** 3999, -10 ** 3999 + 1, 10 ** 1000 + 7):
            self.assertEqual((word_text(number), read_word(f"i{number};")), (f"i{number};", number))

    def test_four_hundred_brackets(self):
        self.assertEqual(word_text(read_word("(" * 400 + ")" * 400)), "(" * 400 + ")" * 400)
        self.bad("(" * 400, 400)
        self.bad("(" * 400 + ")" * 399, 799)
        self.bad("(" * 400 + ")" * 401, 800)
        self.bad("(" * 400 + "i5)", 402)

    def bad(self, text, place):
        with self.assertRaises(BadText) as caught:
            read_word(text)
        self.assertEqual(caught.exception.place, place, text)
        self.assertEqual(place_in(text), place, text)

    def same(self, text):
        """The text is read as place_in tells."""
        place = place_in(text)
        if place is None:
            self.assertEqual(word_text(read_word(text)), text)
        else:
            self.bad(text, place)

    def test_told_places(self):
        for text, place in (
            ("", 0), ("x", 0), ("n", 0), (")", 0), ("NN", 1), ("N ", 1), ("()N", 2), ("())", 2), ("i5;i6;", 3), ("t1:ab", 4), ("(", 1), ("(N", 2), ("(x", 1), ("(N,N)", 2), (" N", 0),
            ("i", 1), ("i;", 1), ("i-", 2), ("i-;", 2), ("i--1;", 2), ("i-0;", 2), ("i0", 2), ("i00;", 2), ("i07;", 2), ("i-07;", 2), ("i+1;", 1), ("i1", 2), ("i12", 3), ("i1.", 2),
            ("i1-;", 2), ("t", 1), ("t:", 1), ("t0", 2), ("t00:", 2), ("t01:a", 2), ("t-1:", 1), ("t1", 2), ("t1;", 2), ("t1:", 3), ("t2:a", 4), ("t12", 3), ("t99999:abc", 10), ("t0:a", 3),
            ("(i07;)", 3), ("(t2:a)", 6), ("(t3:a)", 6), ("(t1:a", 5), ("t1:\n", 3), ("t2:a\t", 4), ("t3:a\x7fb", 4), ("t2:\u00e9a", 3), ("\u0661", 0), ("i\u0661;", 1), ("i1\u0661;", 2), ("t\u0661:a", 1),
            ("t1" + "0" * 3000 + ":ab", 3004 + 1), ("i" + "9" * 4000, 4001), ("(TF(N)))", 7), ("t1:(N", 4), ("\n", 0), ("N\n", 1),
        ):
            self.bad(text, place)

    def test_every_beginning(self):
        draw = a_draw(102)
        for word in WORDS + tuple(a_word(draw) for _ in range(30)):
            text = word_text(word)
            for many in range(len(text)):
                self.bad(text[:many], many)

    def test_a_sign_left_out_put_in_or_exchanged(self):
        draw = a_draw(103)
        for word in WORDS + tuple(a_word(draw) for _ in range(25)):
            text = word_text(word)
            if len(text) > 60:
                continue
            for place in range(len(text) + 1):
                self.same(text[:place] + text[place + 1:])
                for sign in "0179-;:itNTF() a~\n\x7f\u00e9":
                    self.same(text[:place] + sign + text[place:])
                    self.same(text[:place] + sign + text[place + 1:])

    def test_all_short_texts(self):
        for many in range(5):
            for signs in itertools.product("0t1:i;-(N)", repeat=many):
                self.same("".join(signs))


def plain_records(text):
    """The pair that read_records returns, by a pattern and the words of the document."""
    found = []
    while True:
        match = re.match(r"(0|[1-9][0-9]*):", text)
        end = match and match.end() + int(match.group(1))
        if not match or set(text[match.end():end]) - set(SIGNS) or text[end:end + 5] != plain_check(text[match.end():end]) or end + 5 > len(text):
            return tuple(found), text
        found.append(text[match.end():end])
        text = text[end + 5:]


def plain_check(text):
    number = len(text) * 131 ** len(text) + sum(ord(sign) * 131 ** at for at, sign in enumerate(reversed(text)))
    return f"{number % 99991:05}"


def a_text(draw, most):
    return "".join(draw.choice(SIGNS if draw.random() < 0.7 else "0123456789:") for _ in range(draw.randint(0, most)))


class Seals(unittest.TestCase):
    def test_checks(self):
        for text, check in (("", "00000"), (" ", "00163"), ("ab", "47127"), ("a", "00228"), ("~", "00257")):
            self.assertEqual((check_of(text), plain_check(text)), (check, check))
        draw = a_draw(104)
        for _ in range(200):
            text = a_text(draw, 30)
            self.assertEqual(looked_at(self, check_of, text), plain_check(text))
        self.assertTrue(any(check_of(str(k)).startswith("0") for k in range(100)))

    def test_sealed(self):
        self.assertEqual([sealed(""), sealed("ab"), sealed("0123456789")], ["0:00000", "2:ab47127", "10:0123456789" + plain_check("0123456789")])
        for length in (9, 10, 11, 99, 100, 1000):
            text = ("ab cd" * 200)[:length]
            self.assertEqual(looked_at(self, sealed, text), f"{length}:{text}{plain_check(text)}")

    def test_records(self):
        self.assertEqual((records([]), records([""]), looked_at(self, records, ["ab", ""])), ("", "0:00000", "2:ab471270:00000"))
        self.assertEqual(records(("ab", "")), "2:ab471270:00000")
        self.assertEqual([read_records(text) for text in ("", "2:ab471270:00000", "2:ab471270:000", "2:ac47127")],
                         [((), ""), (("ab", ""), ""), (("ab",), "0:000"), ((), "2:ac47127")])

    def test_each_cut(self):
        draw = a_draw(105)
        for texts in ([], [""], ["", "", ""], ["ab"], ["a" * 9, "b" * 10, "", "c" * 100], [a_text(draw, 15) for _ in range(6)], [sealed("x"), sealed(""), "1:"]):
            whole = records(texts)
            for keep in range(len(whole) + 1):
                left = [text for at, text in enumerate(texts) if len(records(texts[:at + 1])) <= keep]
                self.assertEqual(looked_at(self, read_records, whole[:keep]), (tuple(left), whole[len(records(left)):keep]))

    def test_each_sign_exchanged(self):
        for texts in (["abc"], ["", "ab", "0:00000"], ["a" * 12, "b"]):
            whole = records(texts)
            for place in range(len(whole)):
                at = [len(records(texts[:many + 1])) > place for many in range(len(texts))].index(True)
                begin = len(records(texts[:at])) + len(str(len(texts[at]))) + 1
                for sign in SIGNS + "\n\u00e9\u0661":
                    if sign == whole[place]:
                        continue
                    text = whole[:place] + sign + whole[place + 1:]
                    found = read_records(text)
                    self.assertEqual(found, plain_records(text))
                    if begin - 1 <= place < begin + len(texts[at]) + 5:
                        self.assertEqual(found, (tuple(texts[:at]), text[len(records(texts[:at])):]), text)

    def test_signs_left_out_and_put_in(self):
        whole = records(["ab", "", "0123456789x"])
        for place in range(len(whole) + 1):
            for text in [whole[:place] + whole[place + 1:]] + [whole[:place] + sign + whole[place:] for sign in "0127:a-\n"]:
                self.assertEqual(read_records(text), plain_records(text))

    def test_what_is_no_seal(self):
        good = sealed("ab")
        for text in ("02:ab47127", "00:00000", " 2:ab47127", "+2:ab47127", "-0:00000", ":00000", ":", "2", "2:", "2:a", "2:ab", "2:ab4712", "2:ab47128", "2;ab47127", "2:ab 47127", "2:ab0047127",
                     "\u0662:ab47127", "1_0:", "9" * 4000 + ":ab", "9" * 4000, "1e1:", "x", "ab:", "2 :ab47127", "3:ab47127", "1:ab47127"):
            self.assertEqual(looked_at(self, read_records, text), ((), text))
            self.assertEqual(read_records(good + text), (("ab",), text))
            self.assertEqual(read_records(text + good)[0], ())

    def test_signs_that_no_text_has(self):
        for text in ("\n", "a\tb", "\x7f", "\x1f", "\u00e9"):
            number = len(text)
            for sign in text:
                number = (number * 131 + ord(sign)) % 99991
            told = f"{len(text)}:{text}{number:05}"
            self.assertEqual(read_records(told), ((), told))
            self.assertEqual(read_records(sealed("ab") + told), (("ab",), told))

    def test_digits_of_other_scripts_in_a_check(self):
        self.assertEqual(read_records("2:ab4712\u0667"), ((), "2:ab4712\u0667"))

    def test_any_texts(self):
        draw = a_draw(106)
        for _ in range(300):
            texts = [a_text(draw, 8) for _ in range(draw.randint(0, 4))]
            rest = draw.choice(("", "0", "0:0000", a_text(draw, 6)))
            text = records(texts) + rest
            self.assertEqual(read_records(text), plain_records(text))
            self.assertEqual(read_records(text)[0][:len(texts)], tuple(texts))

    def test_a_long_text(self):
        text = SIGNS * 400
        self.assertEqual(read_records(sealed(text)), ((text,), ""))
        self.assertEqual(read_records(sealed("") * 300), (("",) * 300, ""))


if __name__ == "__main__":
    unittest.main()
