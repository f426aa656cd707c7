import itertools
import unittest

from oncestream.errors import BadDisk
from oncestream.seals import records, sealed, word_text
from oncestream.shelves import (cleared, is_whole, kept_on, kept_text, mended, numbers_on, on_shelf, put_down, states_on,
                                tasks_on)
from tests.makers import a_draw
from tests.untouched import looked_at

STATES = ((), (7, ()), (0, (((None, "a b"), ((3, (1, (2,))),)),)), None, True, False, -5, "~ :9", ((0, 2, 5), (1, 0, 0)))
KEPT = [
    (0, 1, ("total", 0), (7, ()), 7), (0, 1, ("total", 1), STATES[2], None), (2, 1, ("out", 0), (), 0), (0, 3, ("", 12), None, 10 ** 9),
    (0, 1, ("total", 0), "again", 9), (1, 2, ("A b:~", 0), True, 5),
]


def shelf_of(kept):
    shelf = ""
    for told in kept:
        shelf = put_down(shelf, *told)
    return shelf


def a_record(draw):
    task = (draw.choice(("a", "b", "out")), draw.randint(0, 2))
    return (draw.randint(0, 2), draw.randint(1, 3), task, draw.choice(STATES), draw.choice((None, 0, 5)))


class Written(unittest.TestCase):
    def test_a_record(self):
        for told in KEPT:
            self.assertEqual(looked_at(self, kept_text, *told), sealed(word_text(told)))
            self.assertEqual(kept_on(kept_text(*told)), [told])
        self.assertEqual(kept_text(0, 1, ("a", 0), (), None), sealed("(i0;i1;(t1:ai0;)()N)"))

    def test_one_behind_another(self):
        shelf = ""
        for many, told in enumerate(KEPT, 1):
            shelf = looked_at(self, put_down, shelf, *told)
            self.assertEqual(shelf, "".join(kept_text(*one) for one in KEPT[:many]))
            self.assertEqual(looked_at(self, kept_on, shelf), KEPT[:many])
        self.assertEqual((kept_on(""), mended("")), ([], ""))

    def test_any_state_and_any_task(self):
        for state in STATES:
            for task in (("", 0), ("out", 7), ("No name: ~ at all, of any length whatever", 10 ** 9)):
                told = (3, 9, task, state, 4)
                shelf = put_down("", *told)
                self.assertEqual((kept_on(shelf), repr(on_shelf(shelf, 3, 9, task))), ([told], repr((state, 4))))


class Cuts(unittest.TestCase):
    """10.8: what was whole stays whole, and what was not is left out."""

    def test_cut_behind_each_number_of_signs(self):
        texts = [kept_text(*told) for told in KEPT[:4]]
        whole = "".join(texts)
        ends = [0] + list(itertools.accumulate(len(text) for text in texts))
        for keep in range(len(whole) + 1):
            many = max(at for at, end in enumerate(ends) if end <= keep)
            cut = whole[:keep]
            self.assertEqual(mended(cut), whole[:ends[many]])
            self.assertEqual(kept_on(cut), KEPT[:many])
            self.assertEqual(put_down(cut, *KEPT[5]), whole[:ends[many]] + kept_text(*KEPT[5]))
            self.assertEqual(mended(mended(cut)), mended(cut))

    def test_a_record_that_is_cut(self):
        shelf, text = shelf_of(KEPT[:2]), kept_text(*KEPT[2])
        for torn in ("", "3:x", "12", "9:", ":", "x"):
            for keep in range(len(text) + 1):
                self.assertEqual(mended(mended(shelf + torn) + text[:keep]), shelf + (text if keep == len(text) else ""))

    def test_one_sign_exchanged(self):
        texts = [kept_text(*told) for told in KEPT[:3]]
        whole = "".join(texts)
        ends = list(itertools.accumulate(len(text) for text in texts))
        for place, sign in enumerate(whole):
            for other in " 0:a~":
                if other != sign:
                    many = len([end for end in ends if end <= place])
                    self.assertEqual(mended(whole[:place] + other + whole[place + 1:]), "".join(texts[:many]))
                    self.assertEqual(kept_on(whole[:place] + other + whole[place + 1:]), KEPT[:many])

    def test_any_signs(self):
        draw = a_draw(501)
        for _ in range(300):
            text = "".join(draw.choice("0123456789:(iN;)t ~") for _ in range(draw.randint(0, 30)))
            shelf = shelf_of(KEPT[:draw.randint(0, 3)])
            self.assertEqual(mended(shelf + text), shelf)


class Wrong(unittest.TestCase):
    def check(self, word, text=None):
        """A sealed text that tells no kept state, with and without right ones and wrong ones around it."""
        wrong, right = sealed(word_text(word) if text is None else text), shelf_of(KEPT[:2])
        for ahead, behind, place in (("", "", 0), (right, "", 2), ("", right, 0), (right, wrong + right, 2)):
            shelf = ahead + wrong + behind
            self.assertEqual(looked_at(self, mended, shelf), shelf)
            self.assertEqual(put_down(shelf, *KEPT[2]), shelf + kept_text(*KEPT[2]))
            for function, arguments in ((kept_on, ()), (on_shelf, (0, 1, ("total", 0))), (tasks_on, (0, 1)), (is_whole, (0, 1, [])),
                                        (numbers_on, ()), (cleared, (0, 1))):
                with self.assertRaises(BadDisk) as caught:
                    function(shelf, *arguments)
                self.assertEqual(caught.exception.place, place)

    def test_each_wrong_part(self):
        task = ("a", 0)
        for word in (
            None, True, 5, "a", (), (0, 1, task, ()), (0, 1, task, (), 5, 5), (0, 1, task), (-1, 1, task, (), 5), (True, 1, task, (), 5), (None, 1, task, (), 5),
            ("0", 1, task, (), 5), (0, 0, task, (), 5), (0, -1, task, (), 5), (0, True, task, (), 5), (0, None, task, (), 5), (0, "1", task, (), 5),
            (0, 1, (), (), 5), (0, 1, ("a",), (), 5), (0, 1, ("a", 0, 0), (), 5), (0, 1, ("a", -1), (), 5), (0, 1, ("a", True), (), 5), (0, 1, ("a", None), (), 5),
            (0, 1, ("a", "0"), (), 5), (0, 1, (0, "a"), (), 5), (0, 1, (None, 0), (), 5), (0, 1, "a", (), 5), (0, 1, None, (), 5), (0, 1, 0, (), 5),
            (0, 1, task, (), -1), (0, 1, task, (), True), (0, 1, task, (), False), (0, 1, task, (), "5"), (0, 1, task, (), ()),
        ):
            self.check(word)

    def test_no_word_at_all(self):
        for text in ("", "x", "(i0;i1;(t1:ai0;)()N", "(i0;i1;(t1:ai0;)()N))", "(i00;i1;(t1:ai0;)()N)", "i5"):
            self.check(None, text)

    def test_right_ones_that_are_near(self):
        for told in ((0, 1, ("a", 0), False, 0), (10 ** 30, 10 ** 30, ("", 10 ** 30), -1, 10 ** 30), (0, 1, ("a", 0), (True,), None)):
            self.assertEqual(repr(kept_on(put_down("", *told))), repr([told]))


class Looked(unittest.TestCase):
    def test_on_shelf(self):
        shelf = shelf_of(KEPT)
        self.assertEqual(looked_at(self, on_shelf, shelf, 0, 1, ("total", 0)), ((7, ()), 7))
        self.assertEqual(on_shelf(shelf, 0, 1, ("total", 1)), (STATES[2], None))
        for epoch, n, task in ((1, 1, ("total", 0)), (0, 2, ("total", 0)), (0, 1, ("total", 2)), (0, 1, ("out", 0)), (2, 2, ("out", 0))):
            self.assertIsNone(on_shelf(shelf, epoch, n, task))
        self.assertEqual((on_shelf(shelf, 2, 1, ("out", 0)), on_shelf("", 0, 1, ("a", 0)), on_shelf(shelf[:-1], 1, 2, ("A b:~", 0))), (((), 0), None, None))

    def test_tasks_and_numbers(self):
        shelf = shelf_of(KEPT)
        self.assertEqual(looked_at(self, tasks_on, shelf, 0, 1), (("total", 0), ("total", 1)))
        self.assertEqual((tasks_on(shelf, 0, 3), tasks_on(shelf, 0, 2), tasks_on("", 0, 1)), ((("", 12),), (), ()))
        self.assertEqual(looked_at(self, numbers_on, shelf), ((0, 1), (0, 3), (1, 2), (2, 1)))
        self.assertEqual(numbers_on(""), ())
        self.assertEqual(tasks_on(shelf_of([(0, 1, (name, 0), (), 0) for name in ("b", "B", "", "ab", "a")]), 0, 1),
                         (("", 0), ("B", 0), ("a", 0), ("ab", 0), ("b", 0)))

    def test_is_whole(self):
        shelf = shelf_of(KEPT)
        self.assertIs(looked_at(self, is_whole, shelf, 0, 1, [("total", 0), ("total", 1)]), True)
        self.assertIs(is_whole(shelf, 0, 1, (("total", 1),)), True)
        self.assertIs(is_whole(shelf, 0, 1, [("total", 0), ("total", 2)]), False)
        self.assertIs(is_whole(shelf, 1, 1, [("total", 0)]), False)
        self.assertIs(is_whole(shelf, 0, 2, [("total", 0)]), False)
        self.assertEqual((is_whole("", 0, 1, []), is_whole("", 0, 1, ()), is_whole("", 0, 1, [("a", 0)])), (True, True, False))

    def test_cleared_at_below_and_above_a_pair(self):
        kept = [(epoch, n, ("a", 0), (), 0) for epoch in (1, 2, 3) for n in (3, 2, 1)]
        shelf = shelf_of(kept)
        for epoch in range(5):
            for n in range(1, 5):
                left = shelf_of([told for told in kept if (told[0], told[1]) >= (epoch, n)])
                self.assertEqual(looked_at(self, cleared, shelf, epoch, n), left)
                self.assertEqual(cleared(left, epoch, n), left)
                self.assertEqual(cleared(shelf + "12:(i", epoch, n), left)

    def test_put_down_twice(self):
        draw = a_draw(502)
        for _ in range(100):
            kept = [a_record(draw) for _ in range(draw.randint(1, 6))]
            shelf, told = shelf_of(kept), kept[0]
            twice = put_down(shelf, *told)
            for epoch, n, task, _, _ in kept:
                self.assertEqual(repr(on_shelf(twice, epoch, n, task)), repr(on_shelf(shelf, epoch, n, task)))
                self.assertEqual(tasks_on(twice, epoch, n), tasks_on(shelf, epoch, n))
            self.assertEqual(numbers_on(twice), numbers_on(shelf))

    def test_lots_of_shelves(self):
        draw = a_draw(503)
        for _ in range(150):
            kept = [a_record(draw) for _ in range(draw.randint(0, 8))]
            shelf = records([word_text(told) for told in kept]) + draw.choice(("", "5:", "3:abc"))
            for epoch, n in itertools.product(range(3), range(1, 4)):
                here = [told for told in kept if told[:2] == (epoch, n)]
                tasks = sorted({told[2] for told in here})
                self.assertEqual(tasks_on(shelf, epoch, n), tuple(tasks))
                first = {task: [told[3:] for told in here if told[2] == task][0] for task in tasks}
                self.assertEqual(repr(looked_at(self, states_on, shelf, epoch, n)), repr({told[2]: first[told[2]] for told in here}))
                for task in itertools.product(("a", "b", "out"), range(3)):
                    self.assertEqual(repr(on_shelf(shelf, epoch, n, task)), repr(first.get(task)))
                self.assertEqual(kept_on(cleared(shelf, epoch, n)), [told for told in kept if told[:2] >= (epoch, n)])
            self.assertEqual(numbers_on(shelf), tuple(sorted({told[:2] for told in kept})))


if __name__ == "__main__":
    unittest.main()
