"""Logs and shelves of which it is known what they tell, held against those that are read anew each time."""

import unittest

from oncestream.known import KnownLog, KnownShelf
from oncestream.logs import entries_of, torn, written
from oncestream.seals import read_records, sealed, seals_by_length
from oncestream.shelves import cleared, mended, put_down, states_on, tasks_on
from tests.makers import a_draw

VALUES = (None, 0, 1, -1, 10 ** 20, "", "a", "a-b c", ":", ";", "(", "12:")
NAMES = ("a", "out", "abcdefgh", "t", "i")


def an_entry(draw):
    if draw.random() < 0.4:
        return ("mark", draw.choice((0, 1, 99, 10 ** 9)))
    values = tuple(draw.choice(VALUES[:8]) for _ in range(draw.randint(0, 4)))
    return ("row", draw.choice((0, 7, 10 ** 8)), draw.choice((1, -1)), values)


def a_state(draw, depth=3):
    return tuple(draw.choice(VALUES) if depth == 0 or draw.random() < 0.5 else a_state(draw, depth - 1) for _ in range(draw.randint(0, 3)))


class Seals(unittest.TestCase):
    def test_by_length(self):
        """Where all seals were written whole but the last one, their lengths tell what their checks tell."""
        draw = a_draw(1441)
        for _ in range(300):
            texts = [draw.choice(("", "a", ":", "5:", "12345", "x" * 99, "(t1:ai5;)", "0:")) for _ in range(draw.randint(0, 5))]
            seals, last = [sealed(text) for text in texts], sealed(draw.choice(("", "abc", "x" * 120, "7:x")))
            for keep in {0, 1, 2, 3, len(last) // 2, len(last) - 1, draw.randrange(len(last))}:
                text = "".join(seals) + last[:keep]
                self.assertEqual(seals_by_length(text, 0), list(zip(seals, texts)))
                self.assertEqual(read_records(text), (tuple(texts), last[:keep]))
                for many in range(len(seals) + 1):
                    self.assertEqual(seals_by_length(text, len("".join(seals[:many]))), list(zip(seals, texts))[many:])


class Logs(unittest.TestCase):
    def check(self, known, log):
        entries = entries_of(log)
        self.assertEqual((known.stands(), known.many()), (log, len(entries)))
        for many in range(len(entries) + 1):
            self.assertEqual(known.entries(many), entries[:many])
        for place in range(len(entries)):
            self.assertEqual(known.entry(place), entries[place])

    def test_written_and_torn(self):
        draw = a_draw(1442)
        for _ in range(60):
            log, known = "", KnownLog("")
            for _ in range(draw.randint(0, 12)):
                entry, keep = an_entry(draw), draw.choice((None, None, None, 0, 1, 5, 20, 30, 40, 10 ** 6))
                known.write(entry, keep)
                log = written(log, [entry]) if keep is None else torn(log, [entry], keep)
                if draw.random() < 0.5:
                    self.check(known, log)
                if draw.random() < 0.2:
                    known = KnownLog(log)
            self.check(known, log)

    def test_followed(self):
        """To a log that goes on, to an elder one, to quite another one; a torn end ahead, then, or both."""
        draw = a_draw(1443)
        for _ in range(40):
            logs = [""]
            for _ in range(10):
                log = draw.choice(logs + logs[-1:] * 8)
                keep = draw.choice((0, 5, 20, 10 ** 6, 10 ** 6, 10 ** 6))
                logs.append(torn(log, [an_entry(draw)], keep))
            known = KnownLog(draw.choice(logs))
            for log in logs + draw.sample(logs, len(logs)):
                known.follow(log)
                self.check(known, log)
                if draw.random() < 0.2:
                    entry = an_entry(draw)
                    known.write(entry, None)
                    self.check(known, written(log, [entry]))


class Shelves(unittest.TestCase):
    def check(self, known, shelf, keys):
        self.assertEqual(known.stands(), shelf)
        for epoch, n in keys:
            self.assertEqual(known.states(epoch, n), states_on(shelf, epoch, n))
            for name in NAMES:
                for number in (0, 1, 12):
                    self.assertIs(known.has(epoch, n, (name, number)), (name, number) in tasks_on(shelf, epoch, n))

    def test_put_down_and_cleared(self):
        draw, held = a_draw(1444), 0
        keys = [(epoch, n) for epoch in (0, 1, 2, 11) for n in (1, 2, 11, 12)]
        for _ in range(60):
            shelf, known, is_looked_at = "", KnownShelf(""), draw.random() < 0.5
            for _ in range(draw.randint(0, 15)):
                epoch, n, task, state, mark = draw.choice(keys) + ((draw.choice(NAMES), draw.choice((0, 1, 12))), a_state(draw), draw.choice((None, 0, 55)))
                keep = draw.choice((None, None, None, None, 0, 3, 20, 10 ** 6))
                known.put_down(epoch, n, (task, state, mark), keep)
                whole = put_down(shelf, epoch, n, task, state, mark)
                shelf = whole if keep is None else whole[:len(mended(shelf)) + keep]
                if draw.random() < 0.15:
                    known.mend()
                    shelf = mended(shelf)
                if draw.random() < 0.15:
                    epoch, n = draw.choice(keys)
                    known.forget(epoch, n)
                    shelf = cleared(shelf, epoch, n)
                if draw.random() < 0.15:
                    known = KnownShelf(shelf)
                if is_looked_at:
                    self.check(known, shelf, draw.sample(keys, 4))
            self.check(known, shelf, keys)
            held += len(shelf) > 100
        self.assertGreater(held, 30)

    def test_the_first_of_a_task_is_told(self):
        known = KnownShelf("")
        for mark in (1, 2, 3):
            known.put_down(1, 1, (("a", 0), (), mark), None)
        self.assertEqual((known.states(1, 1), KnownShelf(known.stands()).states(1, 1)), ({("a", 0): ((), 1)},) * 2)


if __name__ == "__main__":
    unittest.main()
