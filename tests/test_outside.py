import collections
import unittest

from oncestream.outside import agree, bag_of, committed, fresh_outside, heard, heard_all, is_letter, last_of, not_done
from tests.makers import ANYTHING, a_draw, exchanged, within
from tests.untouched import looked_at

A, B, OUT, MORE = ("a", 0), ("a", 1), ("out", 0), ("out", 1)
ONE, TWO, BACK = (3, 1, (5,)), (10 ** 12, 1, (None, "x")), (3, -1, (5,))
LOTS = ((), (ONE,), (ONE, ONE, BACK), (TWO, (3, 1, ("a",)), ONE))


def hold(epoch, n, task, rows=(ONE,)):
    return ("hold", epoch, n, task, rows)


class Plain:
    """The outside told once more: what is held and what is committed, looked up by keys."""

    def __init__(self):
        self.epoch, self.holds, self.commits = 0, {}, {}

    def last(self):
        return max(self.commits, default=0)

    def hear(self, letter):
        if letter[0] == "hold":
            _, epoch, n, task, rows = letter
            if epoch < self.epoch:
                return ()
            if n > self.last():
                self.holds.setdefault((epoch, n, task), rows)
            return (("held", epoch, n, task),)
        if letter[0] == "commit":
            _, epoch, n, tasks = letter
            if n > self.last():
                if [task for task in tasks if (epoch, n, task) not in self.holds]:
                    return ()
                self.commits[n] = {task: self.holds.pop((epoch, n, task)) for task in tasks}
            return (("done", n),)
        _, epoch, n = letter
        if n > self.last():
            return ()
        self.epoch = max(self.epoch, epoch)
        self.holds = {key: rows for key, rows in self.holds.items() if key[0] >= self.epoch}
        return (("dropped", epoch),)

    def outside(self):
        holds = tuple(key + (self.holds[key],) for key in sorted(self.holds))
        return (self.epoch, holds, tuple((n, tuple(sorted(self.commits[n].items(), key=lambda pair: pair[0]))) for n in sorted(self.commits)))


def a_letter(draw):
    word, epoch, tasks = draw.choice(("hold", "hold", "hold", "commit", "drop")), draw.randint(0, 2), (A, B, OUT)
    if word == "hold":
        return hold(epoch, draw.randint(1, 3), draw.choice(tasks), draw.choice(LOTS))
    if word == "commit":
        return ("commit", epoch, draw.randint(1, 3), tuple(task for task in tasks if draw.random() < 0.4))
    return ("drop", epoch, draw.randint(0, 3))


class Letters(unittest.TestCase):
    RIGHT = (
        hold(0, 1, OUT, ()), hold(10 ** 50, 10 ** 50, ("abcdefgh", 10 ** 50), LOTS[3]), hold(2, 7, ("z", 0), ((0, -1, ()),)), hold(1, 1, A, ((10 ** 9, 1, (1,) * 20),)),
        ("commit", 0, 1, ()), ("commit", 2, 7, (OUT,)), ("commit", 3, 1, (A, B, OUT, MORE)), ("commit", 3, 1, (("a", 2), ("a", 10), ("aa", 0), ("b", 0))),
        ("drop", 0, 0), ("drop", 5, 0), ("drop", 0, 9),
    )

    def test_right_ones(self):
        for value in self.RIGHT:
            self.assertIs(looked_at(self, is_letter, value), True, value)

    def test_wrong_holds(self):
        for value in (
            hold(-1, 1, OUT), hold(True, 1, OUT), hold(False, 1, OUT), hold(None, 1, OUT), hold("1", 1, OUT), hold(0, 0, OUT), hold(0, -1, OUT), hold(0, True, OUT), hold(0, None, OUT),
            hold(0, 1, ("", 0)), hold(0, 1, ("abcdefghi", 0)), hold(0, 1, ("A", 0)), hold(0, 1, ("a b", 0)), hold(0, 1, ("a1", 0)), hold(0, 1, (0, 0)), hold(0, 1, (None, 0)), hold(0, 1, ("a", -1)),
            hold(0, 1, ("a", True)), hold(0, 1, ("a", None)), hold(0, 1, ("a", "0")), hold(0, 1, ("a",)), hold(0, 1, ("a", 0, 0)), hold(0, 1, ["a", 0]), hold(0, 1, "a"), hold(0, 1, None),
            hold(0, 1, ()), hold(0, 1, {}), hold(0, 1, OUT, None), hold(0, 1, OUT, [ONE]), hold(0, 1, OUT, {}), hold(0, 1, OUT, ONE), hold(0, 1, OUT, (None,)), hold(0, 1, OUT, (ONE, list(ONE))),
            hold(0, 1, OUT, ((3, 0, ()),)), hold(0, 1, OUT, ((3, 2, ()),)), hold(0, 1, OUT, ((3, True, ()),)), hold(0, 1, OUT, ((-1, 1, ()),)), hold(0, 1, OUT, ((True, 1, ()),)),
            hold(0, 1, OUT, ((3, 1, [5]),)), hold(0, 1, OUT, ((3, 1, (True,)),)), hold(0, 1, OUT, ((3, 1, ("a.b",)),)), hold(0, 1, OUT, ((3, 1, ((),)),)), hold(0, 1, OUT, ((3, 1),)),
            hold(0, 1, OUT, ((3, 1, (), 0),)), hold(0, 1, OUT, (("row", 3, 1, ()),)), hold(0, 1, OUT) + (0,), hold(0, 1, OUT)[:4], list(hold(0, 1, OUT)), ("held",) + hold(0, 1, OUT)[1:],
        ):
            self.assertIs(looked_at(self, is_letter, value), False, value)

    def test_wrong_commits_and_drops(self):
        for value in (
            ("commit", 0, 0, ()), ("commit", -1, 1, ()), ("commit", True, 1, ()), ("commit", 0, True, ()), ("commit", 0, 1, []), ("commit", 0, 1, [OUT]), ("commit", 0, 1, None), ("commit", 0, 1, OUT),
            ("commit", 0, 1, (OUT, A)), ("commit", 0, 1, (A, A)), ("commit", 0, 1, (B, A)), ("commit", 0, 1, (("a", 10), ("a", 2))), ("commit", 0, 1, (("b", 0), ("aa", 0))), ("commit", 0, 1, (A, ["b", 0])),
            ("commit", 0, 1, (("a", True),)), ("commit", 0, 1, (("abcdefghi", 0),)), ("commit", 0, 1, (A, None)), ("commit", 0, 1, (A, B), 0), ("commit", 0, 1), ("commits", 0, 1, ()),
            ("drop", -1, 0), ("drop", 0, -1), ("drop", True, 0), ("drop", 0, False), ("drop", None, 0), ("drop", 0, None), ("drop", 0, "0"), ("drop", 0, 0, 0), ("drop", 0), ("drop",), ["drop", 0, 0],
            ("held", 0, 1, OUT), ("done", 1), ("dropped", 1), ("begin", 0, 1, OUT), ("kept", 0, 1, OUT), (None, 0, 0), (True, 0, 0), (("drop",), 0, 0), (["drop"], 0, 0), ({}, 0, 0),
        ) + ANYTHING + (within(30), (within(29), 0, 0)):
            self.assertIs(looked_at(self, is_letter, value), False, value)

    def test_one_thing_exchanged(self):
        def others(thing):
            return [True, [thing], {}, "!", -1] + ([list(thing)] if isinstance(thing, tuple) else [])
        for letter in (hold(1, 2, OUT, (ONE,)), ("commit", 1, 2, (A, OUT)), ("drop", 1, 2)):
            for value in exchanged(letter, others):
                # Nothing but a value of the row may be a number below 0.
                self.assertIs(is_letter(value), value == hold(1, 2, OUT, ((3, 1, (-1,)),)) or value == hold(1, 2, OUT, ((3, -1, (5,)),)), value)


class Heard(unittest.TestCase):
    OUTSIDE = (2, ((2, 8, A, (ONE,)), (2, 8, OUT, ()), (3, 8, OUT, (BACK,))), ((7, ((OUT, (ONE,)),)),))

    def hear(self, letter, outside=None):
        return looked_at(self, heard, self.OUTSIDE if outside is None else outside, letter)

    def test_fresh(self):
        self.assertEqual((looked_at(self, fresh_outside), last_of(fresh_outside())), ((0, (), ()), 0))
        self.assertEqual(looked_at(self, last_of, (0, (), ((2, ()), (5, ()), (9, ())))), 9)

    def test_a_hold(self):
        epoch, holds, commits = self.OUTSIDE
        self.assertEqual(self.hear(hold(1, 8, B)), (self.OUTSIDE, ()))
        self.assertEqual(self.hear(hold(1, 7, B)), (self.OUTSIDE, ()))
        for n in (1, 6, 7):
            self.assertEqual(self.hear(hold(2, n, B)), (self.OUTSIDE, (("held", 2, n, B),)))
        self.assertEqual(self.hear(hold(2, 8, A, (TWO,))), (self.OUTSIDE, (("held", 2, 8, A),)))
        for letter, at in ((hold(2, 8, B), 1), (hold(2, 9, A), 2), (hold(3, 8, A), 2), (hold(3, 8, MORE, ()), 3), (hold(9, 8, A), 3), (hold(2, 10 ** 9, A), 2)):
            self.assertEqual(self.hear(letter), ((epoch, holds[:at] + (letter[1:],) + holds[at:], commits), (("held",) + letter[1:4],)))

    def test_rows_of_unlike_kinds_are_not_compared(self):
        outside = heard_all(fresh_outside(), [hold(1, 1, A, ((1, 1, ("a",)),)), hold(1, 1, B, ((1, 1, (1,)),)), hold(1, 2, A, ((1, 1, (None,)),))])[0]
        self.assertEqual([told[:3] for told in outside[1]], [(1, 1, A), (1, 1, B), (1, 2, A)])

    def test_a_commit(self):
        epoch, holds, commits = self.OUTSIDE
        for n in (1, 7):
            for elder in (0, 2, 9):
                self.assertEqual(self.hear(("commit", elder, n, (OUT,))), (self.OUTSIDE, (("done", n),)))
        for letter in (("commit", 2, 8, (A, B, OUT)), ("commit", 2, 8, (B,)), ("commit", 2, 9, (A,)), ("commit", 3, 8, (A, OUT)), ("commit", 1, 8, (OUT,))):
            self.assertEqual(self.hear(letter), (self.OUTSIDE, ()))
        both = (epoch, holds[2:], commits + ((8, ((A, (ONE,)), (OUT, ()))),))
        self.assertEqual(self.hear(("commit", 2, 8, (A, OUT))), (both, (("done", 8),)))
        self.assertEqual(self.hear(("commit", 2, 8, (A,))), ((epoch, holds[1:], commits + ((8, ((A, (ONE,)),)),)), (("done", 8),)))
        self.assertEqual(self.hear(("commit", 3, 8, (OUT,))), ((epoch, holds[:2], commits + ((8, ((OUT, (BACK,)),)),)), (("done", 8),)))
        self.assertEqual(self.hear(("commit", 0, 12, ())), ((epoch, holds, commits + ((12, ()),)), (("done", 12),)))
        # What was committed stays so, and whatever was held of the number beside it stays until a drop.
        for letter in (("commit", 2, 8, (A, OUT)), ("commit", 3, 8, (OUT,)), hold(2, 8, A), hold(3, 8, B)):
            self.assertEqual(self.hear(letter, both)[0], both)

    def test_a_drop(self):
        epoch, holds, commits = self.OUTSIDE
        for n in (8, 9):
            self.assertEqual(self.hear(("drop", 3, n)), (self.OUTSIDE, ()))
        for n in (0, 6, 7):
            for elder in (0, 1, 2):
                self.assertEqual(self.hear(("drop", elder, n)), (self.OUTSIDE, (("dropped", elder),)))
            self.assertEqual(self.hear(("drop", 3, n)), ((3, holds[2:], commits), (("dropped", 3),)))
            self.assertEqual(self.hear(("drop", 4, n)), ((4, (), commits), (("dropped", 4),)))
        # Elder holds that stand already go with a drop of an epoch that is no greater, too.
        old = (3, holds, commits)
        self.assertEqual(self.hear(("drop", 1, 7), old), ((3, holds[2:], commits), (("dropped", 1),)))

    def test_all(self):
        letters = [hold(2, 1, OUT), ("commit", 2, 1, (OUT,)), ("drop", 4, 1), hold(3, 2, OUT)]
        told = ((4, (), ((1, ((OUT, (ONE,)),)),)), (("held", 2, 1, OUT), ("done", 1), ("dropped", 4)))
        self.assertEqual(looked_at(self, heard_all, fresh_outside(), letters), told)
        self.assertEqual(heard_all(fresh_outside(), tuple(letters)), told)
        self.assertEqual(looked_at(self, heard_all, self.OUTSIDE, []), (self.OUTSIDE, ()))

    def test_the_second_telling(self):
        draw, seen = a_draw(511), collections.Counter()
        for _ in range(400):
            outside, plain = fresh_outside(), Plain()
            for _ in range(draw.randint(1, 30)):
                letter = a_letter(draw)
                self.assertTrue(is_letter(letter))
                behind, answers = heard(outside, letter)
                self.assertEqual(answers, plain.hear(letter))
                self.assertEqual(behind, plain.outside())
                seen[letter[0], behind != outside, bool(answers)] += 1
                outside = behind
                self.assertEqual(last_of(outside), plain.last())
        self.assertEqual(len([key for key in seen if seen[key] > 20]), 9)


class Committed(unittest.TestCase):
    def test_bags(self):
        self.assertEqual(looked_at(self, bag_of, [ONE, TWO, ONE, BACK]), {ONE: 2, TWO: 1, BACK: 1})
        self.assertEqual((bag_of(()), bag_of((ONE,))), ({}, {ONE: 1}))

    def test_of_one_step(self):
        outside = (5, ((5, 9, OUT, (TWO,)),), ((1, ((A, (ONE,)), (OUT, (TWO, TWO)), (MORE, (ONE,)))), (3, ()), (4, ((B, (BACK,)), (OUT, (TWO,)), (("outer", 0), (BACK,))))))
        self.assertEqual(looked_at(self, committed, outside, "out"), {TWO: 3, ONE: 1})
        self.assertEqual((committed(outside, "a"), committed(outside, "outer"), committed(outside, "ou"), committed(fresh_outside(), "out")), ({ONE: 1, BACK: 1}, {BACK: 1}, {}, {}))


class Agree(unittest.TestCase):
    def test_holds_and_commits(self):
        right = [hold(2, 7, OUT), hold(2, 7, A, ()), hold(2, 8, OUT, ()), hold(3, 7, OUT, ()), hold(2, 7, MORE, ()), ("commit", 2, 7, (A, OUT)), ("commit", 2, 8, ()), ("drop", 1, 0), ("drop", 1, 1)]
        self.assertIs(looked_at(self, agree, right), True)
        self.assertIs(agree(tuple(right * 2)), True)
        self.assertIs(agree([]), True)
        for letter in (hold(2, 7, OUT, ()), hold(2, 7, OUT, (ONE, ONE)), hold(2, 7, OUT, (BACK,)), hold(2, 7, A), ("commit", 3, 7, (A, OUT)), ("commit", 2, 7, (A,)), ("commit", 2, 7, ()), ("commit", 2, 8, (A,))):
            self.assertIs(agree(right + [letter]), False)
            self.assertIs(looked_at(self, agree, [letter] + right), False)
            self.assertIs(agree([letter, letter]), True)

    def test_not_done(self):
        first, second = ("commit", 2, 7, (OUT,)), ("commit", 2, 8, (OUT,))
        for letters, left in (
            ([], ()), ([hold(2, 7, OUT)], ()), ([first], (7,)), ([first, first], (7,)), ([hold(2, 7, OUT), first], ()), ([first, hold(2, 7, OUT)], (7,)), ([first, hold(2, 7, OUT), first], ()),
            ([second, first], (7, 8)), ([hold(2, 7, OUT), hold(2, 8, OUT), second, first], (7,)), ([hold(2, 7, OUT), hold(2, 8, OUT), first, second], ()),
            ([hold(2, 7, OUT), ("drop", 3, 0), first], (7,)), ([hold(3, 7, OUT), first], (7,)), ([("commit", 2, 9, ()), hold(2, 7, OUT), first], (7,)),
        ):
            self.assertEqual(looked_at(self, not_done, letters), left)
            self.assertEqual(not_done(tuple(letters)), left)


class ForAll(unittest.TestCase):
    """11.5 and 11.6, over many lists."""

    def test_a_letter_changes_the_outside_at_most_once(self):
        draw = a_draw(512)
        for _ in range(300):
            letters = [a_letter(draw) for _ in range(8)]
            outside, changes = fresh_outside(), collections.Counter()
            for _ in range(40):
                letter = draw.choice(letters)
                behind = heard(outside, letter)[0]
                changes[letter] += behind != outside
                self.assertEqual(behind[2][:len(outside[2])], outside[2])
                outside = behind
            self.assertLessEqual(max(changes.values()), 1)
            numbers = [n for n, _ in outside[2]]
            self.assertEqual(numbers, sorted(set(numbers)))

    def that_agree(self, draw):
        """A list of letters that agree, as those of a control that goes from number to number."""
        letters = []
        for n in range(1, 4):
            epoch = draw.randint(0, 2)
            tasks = tuple(task for task in (A, B, OUT) if draw.random() < 0.7)
            letters += [hold(epoch, n, task, draw.choice(LOTS)) for task in (A, B, OUT)] + [("commit", epoch, n, tasks)]
            letters += [hold(other, n, OUT, draw.choice(LOTS)) for other in range(3) if other != epoch and draw.random() < 0.3]
            letters += [("drop", draw.randint(0, 2), draw.randint(0, n))] * (draw.random() < 0.4)
        return letters

    def test_lists_that_agree(self):
        draw, done = a_draw(513), 0
        for _ in range(600):
            letters = self.that_agree(draw)
            self.assertIs(agree(letters), True)
            rows = {letter[1:4]: letter[4] for letter in letters if letter[0] == "hold"}
            if draw.random() < 0.7:
                letters = [draw.choice(letters) for _ in range(30)]
            else:
                letters = [letter for letter in letters for _ in range(draw.choice((0, 1, 1, 1, 1, 1, 2)))]
            self.assertIs(agree(letters), True)
            outside, seen = fresh_outside(), set()
            for letter in letters:
                if letter[0] == "commit":
                    _, epoch, n, tasks = letter
                    can = all((epoch, n, task) in seen for task in tasks) and (outside[0] <= epoch or not tasks) and n > last_of(outside)
                    self.assertEqual(heard(outside, letter)[0] != outside, can)
                # A hold has been heard, so that it counts, if its epoch was not elder and its number not done.
                if letter[0] == "hold" and letter[1] >= outside[0] and letter[2] > last_of(outside):
                    seen.add(letter[1:4])
                outside = heard(outside, letter)[0]
            commits = {letter[2]: letter for letter in letters if letter[0] == "commit"}
            for n, lots in outside[2]:
                self.assertEqual(lots, tuple((task, rows[commits[n][1], n, task]) for task in commits[n][3]))
                done += 1
            awaited = [row for n, lots in outside[2] for task in commits[n][3] if task[0] == "a" for row in rows[commits[n][1], n, task]]
            self.assertEqual(committed(outside, "a"), dict(collections.Counter(awaited)))
            self.assertEqual(not_done(letters), tuple(sorted(set(commits) - {n for n, _ in outside[2]})))
        self.assertGreater(done, 200)

    def test_nothing_complete_is_lost(self):
        """A number is complete when all is held, the next one begun when it is done, a drop tells the last one."""
        draw = a_draw(514)
        for _ in range(200):
            sent, epoch, awaited = [], 0, []
            for n in range(1, 5):
                while draw.random() < 0.4:
                    sent += [hold(epoch, n, task, draw.choice(LOTS)) for task in (A, OUT, MORE) if draw.random() < 0.7]
                    epoch += 1
                    sent.append(("drop", epoch, n - 1))
                rows = {task: draw.choice(LOTS) for task in (A, OUT, MORE)}
                sent += [hold(epoch, n, task, rows[task]) for task in rows]
                sent += [("commit", epoch, n, (A, OUT, MORE))] * draw.randint(1, 2)
                awaited += rows[OUT] + rows[MORE]
            heard_late = []
            for letter in sent:
                heard_late += [letter] * draw.choice((1, 1, 2)) + [draw.choice(sent[:sent.index(letter) + 1])] * draw.choice((0, 1))
            self.assertIs(agree(heard_late), True)
            self.assertEqual(not_done(heard_late), ())
            self.assertEqual(committed(heard_all(fresh_outside(), heard_late)[0], "out"), dict(collections.Counter(awaited)))


if __name__ == "__main__":
    unittest.main()
