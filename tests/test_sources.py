import itertools
import unittest

from oncestream.errors import BadDisk
from oncestream.logs import entries_of, late_places, written
from oncestream.marks import END
from oncestream.seals import records
from oncestream.sources import (again, at_source, back_source, begun, dealt, dealt_anew, fresh_source, mark_of, read, read_all,
                                read_next)
from tests.makers import a_draw
from tests.test_logs import an_entry
from tests.untouched import looked_at

TASK = ("a", 0)
LETTER = ("hold", 4, 1, TASK, ())


def row(time, *values):
    return ("row", time, 1, values)


def hold(epoch, n, late):
    return ("hold", epoch, n, TASK, tuple(late))


class Plain:
    """A source told once more: all that was read, from which everything is found anew."""

    def __init__(self, logs):
        self.logs, self.read = logs, {part: 0 for part in logs}
        self.late, self.letter = [], None

    def mark(self, part):
        return max([0] + [entry[1] for entry in self.logs[part][:self.read[part]] if entry[0] == "mark"])

    def least(self):
        return min([self.mark(part) for part in self.logs], default=END)

    def next(self, part):
        """The things that come, None if there is no entry."""
        if self.read[part] == len(self.logs[part]):
            return None
        entry, elder, is_late = self.logs[part][self.read[part]], self.least(), self.read[part] in late_places(self.logs[part])
        self.read[part] += 1
        if entry[0] == "row" and is_late:
            self.late.append(entry[1:])
        elif entry[0] == "row":
            return (("row", entry[1:]),)
        return (("mark", self.least()),) if self.least() > elder else ()

    def source(self):
        return (tuple((part, self.read[part], self.mark(part)) for part in sorted(self.logs)), tuple(self.late), self.letter)


class Read(unittest.TestCase):
    def test_fresh(self):
        self.assertEqual(looked_at(self, fresh_source, (0, 2, 5)), (((0, 0, 0), (2, 0, 0), (5, 0, 0)), (), None))
        self.assertEqual(fresh_source(()), ((), (), None))

    def test_mark_of_and_begun(self):
        for parts, mark in (((), END), (((0, 3, 7),), 7), (((0, 3, 7), (4, 0, 0)), 0), (((0, 3, 7), (1, 2, 5), (9, 1, 6)), 5), (((1, 1, END),), END)):
            for late, letter in (((), None), ((row(3)[1:],), LETTER)):
                self.assertEqual(looked_at(self, mark_of, (parts, late, letter)), mark)
                self.assertEqual(looked_at(self, begun, (parts, late, letter)), (("mark", mark),))

    def test_rows_at_a_mark(self):
        for letter in (None, LETTER):
            source = (((0, 1, 5), (1, 4, 9)), ((1, 1, ()),), letter)
            for time, is_late in ((0, True), (4, True), (5, False), (6, False), (10 ** 8, False)):
                entry = ("row", time, -1, (7, None))
                late = ((1, 1, ()), entry[1:]) if is_late else ((1, 1, ()),)
                things = () if is_late else (("row", entry[1:]),)
                self.assertEqual(looked_at(self, read, source, 0, entry), ((((0, 2, 5), (1, 4, 9)), late, letter), things))

    def test_lateness_is_told_by_the_own_part_alone(self):
        source = (((0, 1, 5), (1, 1, 9)), (), None)
        self.assertEqual(read(source, 0, row(7))[1], (("row", (7, 1, ())),))
        self.assertEqual(read(source, 1, row(7)), ((((0, 1, 5), (1, 2, 9)), ((7, 1, ()),), None), ()))

    def test_marks(self):
        for letter in (None, LETTER):
            for m, after, things in ((0, 5, ()), (4, 5, ()), (5, 5, ()), (6, 6, (("mark", 6),)), (END, END, (("mark", END),))):
                self.assertEqual(looked_at(self, read, (((3, 7, 5),), ((0, 1, ()),), letter), 3, ("mark", m)), ((((3, 8, after),), ((0, 1, ()),), letter), things))

    def test_one_part_holds_the_others_back(self):
        source = (((0, 0, 3), (1, 0, 5), (2, 0, 3)), (), None)
        for part, m, after, things in ((1, 9, 9, ()), (0, 4, 4, ()), (0, 9, 9, ()), (2, 9, 9, ())):
            parts = tuple((other, place + 1, after) if other == part else (other, place, mark) for other, place, mark in source[0])
            self.assertEqual(read(source, part, ("mark", m)), ((parts, (), None), things))
        source = (((0, 0, 3), (1, 0, 5)), (), None)
        for m, least in ((4, 4), (5, 5), (6, 5), (END, 5)):
            self.assertEqual(read(source, 0, ("mark", m))[1], (("mark", least),))
        self.assertEqual(read(source, 1, ("mark", 8))[1], ())

    def test_read_next(self):
        log = written("", [("mark", 5), row(5), row(3)])
        source, found = (((1, 0, 0),), (), None), []
        while (told := looked_at(self, read_next, source, 1, log)) is not None:
            source, things = told
            found.append(things)
        self.assertEqual((source, found), ((((1, 3, 5),), ((3, 1, ()),), None), [(("mark", 5),), (("row", (5, 1, ())),), ()]))
        self.assertEqual((read_next(source, 1, log + "12:(t4"), read_next(fresh_source((0,)), 0, ""), read_next(fresh_source((0,)), 0, "x")), (None, None, None))
        self.assertEqual(read_next((((0, 9, 0), (1, 1, 5)), (), None), 1, log), ((((0, 9, 0), (1, 2, 5)), (), None), (("row", (5, 1, ())),)))

    def test_read_next_of_a_broken_log(self):
        log = written("", [("mark", 5)]) + records(["N"])
        for place in (0, 1, 7):
            with self.assertRaises(BadDisk) as caught:
                read_next((((0, place, 0),), (), None), 0, log)
            self.assertEqual(caught.exception.place, 1)

    def test_of_many(self):
        draw = a_draw(121)
        for _ in range(120):
            logs = {part: [an_entry(draw) for _ in range(draw.randint(0, 8))] for part in draw.sample(range(6), draw.randint(0, 4))}
            plain, source, texts = Plain(logs), fresh_source(tuple(sorted(logs))), {part: written("", logs[part]) for part in logs}
            self.assertEqual(source, plain.source())
            order, sent = [draw.choice(sorted(logs)) for _ in range(20 if logs else 0)], []
            for part in order:
                things, told = plain.next(part), read_next(source, part, texts[part])
                self.assertEqual(told, None if things is None else (plain.source(), things))
                if told is not None:
                    source = told[0]
                    sent.extend(things)
            begin = fresh_source(tuple(sorted(logs)))
            self.assertEqual(looked_at(self, read_all, begin, order, texts), (source, tuple(sent)))
            self.assertEqual(read_all(begin, tuple(order), texts), (source, tuple(sent)))

    def test_no_row_is_below_a_mark_given_ahead_of_it(self):
        draw = a_draw(122)
        for _ in range(80):
            logs = {part: written("", [an_entry(draw) for _ in range(8)]) for part in range(draw.randint(1, 3))}
            source = fresh_source(tuple(sorted(logs)))
            mark = begun(source)[0][1]
            for word, thing in read_all(source, [draw.choice(sorted(logs)) for _ in range(30)], logs)[1]:
                if word == "mark":
                    self.assertGreater(thing, mark)
                    mark = thing
                else:
                    self.assertGreaterEqual(thing[0], mark)

    def test_each_entry_once(self):
        draw = a_draw(123)
        for _ in range(60):
            logs = {part: written("", [an_entry(draw) for _ in range(draw.randint(0, 7))]) for part in range(3)}
            order = [part for part in logs for _ in range(8)]
            draw.shuffle(order)
            source, things = read_all(fresh_source((0, 1, 2)), order, logs)
            rows = sorted(repr(entry[1:]) for log in logs.values() for entry in entries_of(log) if entry[0] == "row")
            self.assertEqual(sorted([repr(thing[1]) for thing in things if thing[0] == "row"] + [repr(late) for late in source[1]]), rows)
            self.assertEqual([place for _, place, _ in source[0]], [len(entries_of(logs[part])) for part in range(3)])


class Barriers(unittest.TestCase):
    def test_at_source(self):
        for late in ((), ((3, 1, ()), (2, -1, (7,)))):
            for letter in (None, LETTER):
                told = hold(4, 9, late)
                self.assertEqual(looked_at(self, at_source, (((0, 2, 5),), late, letter), 4, 9, TASK), ((((0, 2, 5),), (), told), ((0, 2, 5),), told))
        self.assertEqual(at_source(((), (), None), 0, 1, ("clicks", 3)), (((), (), ("hold", 0, 1, ("clicks", 3), ())), (), ("hold", 0, 1, ("clicks", 3), ())))

    def test_back_source(self):
        for kept in ((), ((0, 2, 5),), ((1, 0, 0), (4, 7, END))):
            self.assertEqual(looked_at(self, back_source, kept), (kept, (), None))

    def test_again(self):
        self.assertEqual((looked_at(self, again, ((), (), None)), looked_at(self, again, ((), ((3, 1, ()),), LETTER))), ((), (LETTER,)))
        # Of a sink, a pair (rows, letter).
        self.assertEqual((again(((), None)), again((((3, 1, ()),), LETTER))), ((), (LETTER,)))

    def test_one_behind_another_with_nothing_between(self):
        source = read((((0, 1, 5),), (), None), 0, row(3))[0]
        source, kept, letter = at_source(source, 1, 1, TASK)
        self.assertEqual((kept, letter, again(source)), (((0, 2, 5),), hold(1, 1, [(3, 1, ())]), (letter,)))
        source, kept, letter = at_source(source, 1, 2, TASK)
        self.assertEqual((source, kept, letter), ((((0, 2, 5),), (), hold(1, 2, [])), ((0, 2, 5),), hold(1, 2, [])))

    def test_between_any_two_entries(self):
        """Barriers anywhere change nothing of the things, and deal out the late rows; a source that comes back goes on alike."""
        draw = a_draw(124)
        for _ in range(60):
            logs = {part: written("", [an_entry(draw) for _ in range(draw.randint(0, 6))]) for part in range(draw.randint(1, 3))}
            order = [draw.choice(sorted(logs)) for _ in range(14)]
            whole, things = read_all(fresh_source(tuple(sorted(logs))), order, logs)
            for cut in range(len(order) + 1):
                begin, ahead = read_all(fresh_source(tuple(sorted(logs))), order[:cut], logs)
                source, kept, letter = at_source(begin, 2, 7, TASK)
                self.assertEqual((source, kept, letter), ((begin[0], (), letter), begin[0], hold(2, 7, begin[1])))
                on, behind = read_all(source, order[cut:], logs)
                self.assertEqual((ahead + behind, letter[4] + on[1], on[0], on[2]), (things, whole[1], whole[0], letter))
                back, same = read_all(back_source(kept), order[cut:], logs)
                self.assertEqual((back, same), ((on[0], on[1], None), behind))
                self.assertEqual(begun(back_source(kept)), (("mark", mark_of(begin)),))

    def test_orders_beyond_the_end_of_a_log(self):
        logs = {0: written("", [row(3)]), 1: "", 2: written("", [("mark", 5), row(6)]) + "12:(t4"}
        source, things = looked_at(self, read_all, fresh_source((0, 1, 2)), [1, 0, 0, 2, 1, 2, 2, 2, 0], logs)
        self.assertEqual((source, things), ((((0, 1, 0), (1, 0, 0), (2, 2, 5)), (), None), (("row", (3, 1, ())), ("row", (6, 1, ())))))
        self.assertEqual(read_all(fresh_source((0,)), [], logs), (fresh_source((0,)), ()))


class Dealt(unittest.TestCase):
    def test_dealt(self):
        for count, workers, awaited in ((0, 1, ((),)), (5, 1, ((0, 1, 2, 3, 4),)), (5, 2, ((0, 2, 4), (1, 3))), (2, 4, ((0,), (1,), (), ())), (0, 3, ((), (), ())), (4, 4, ((0,), (1,), (2,), (3,)))):
            self.assertEqual(looked_at(self, dealt, count, workers), awaited)
        for count, workers in itertools.product(range(13), range(1, 9)):
            self.assertEqual(dealt(count, workers), tuple(tuple(part for part in range(count) if part % workers == w) for w in range(workers)))

    def test_dealt_anew(self):
        keeps = [((0, 2, 5), (2, 1, 0)), ((1, 3, 4),)]
        self.assertEqual(looked_at(self, dealt_anew, keeps, 3), (((0, 2, 5),), ((1, 3, 4),), ((2, 1, 0),)))
        self.assertEqual(dealt_anew(tuple(keeps), 1), (((0, 2, 5), (1, 3, 4), (2, 1, 0)),))
        self.assertEqual(dealt_anew([((5, 1, 1),), ((9, 2, 2), (3, 3, 3)), ()], 2), ((), ((3, 3, 3), (5, 1, 1), (9, 2, 2))))
        self.assertEqual(dealt_anew([((7, 0, 0),)], 8), ((),) * 7 + (((7, 0, 0),),))
        self.assertEqual((dealt_anew([], 2), dealt_anew([(), ()], 1)), (((), ()), ((),)))

    def test_dealt_anew_twice(self):
        draw = a_draw(125)
        for _ in range(60):
            triples = [(part, draw.randint(0, 9), draw.choice((0, 5, END))) for part in draw.sample(range(12), draw.randint(0, 12))]
            draw.shuffle(triples)
            keeps = [tuple(triples[:4]), tuple(triples[4:5]), tuple(triples[5:])]
            for one, other in itertools.product((1, 2, 3, 8), repeat=2):
                first = dealt_anew(keeps, one)
                self.assertEqual(dealt_anew(list(first), other), dealt_anew(keeps, other))
                self.assertEqual(dealt_anew(first, one), first)
                self.assertEqual(sorted(triple for kept in first for triple in kept), sorted(triples))
                for w, kept in enumerate(first):
                    self.assertEqual(list(kept), sorted(kept))
                    self.assertTrue(all(part % one == w for part, _, _ in kept))

    def test_dealt_anew_is_as_dealt(self):
        for count, workers in itertools.product(range(7), range(1, 5)):
            keeps = [tuple((part, 0, 0) for part in parts) for parts in dealt(count, 2)]
            self.assertEqual(dealt_anew(keeps, workers), tuple(fresh_source(parts)[0] for parts in dealt(count, workers)))

    def test_all_entries_are_read_once_whoever_reads_them(self):
        draw = a_draw(126)
        for _ in range(40):
            logs = {part: written("", [an_entry(draw) for _ in range(draw.randint(0, 6))]) for part in range(4)}
            whole, sources, told = [], [fresh_source(parts) for parts in dealt(4, 2)], []
            for workers in (2, 3, 1, 4):
                sources = [back_source(kept) for kept in dealt_anew([source[0] for source in sources], workers)]
                for at, source in enumerate(sources):
                    parts = [part for part, _, _ in source[0]]
                    source, things = read_all(source, [draw.choice(parts) for _ in range(6 if parts else 0)], logs)
                    sources[at] = source
                    told += [thing[1] for thing in things if thing[0] == "row"] + list(source[1])
            for source in sources:
                for part, place, mark in source[0]:
                    entries = entries_of(logs[part])[:place]
                    whole += [entry[1:] for entry in entries if entry[0] == "row"]
                    self.assertEqual(mark, max([0] + [entry[1] for entry in entries if entry[0] == "mark"]))
            self.assertEqual(sorted(map(repr, told)), sorted(map(repr, whole)))


if __name__ == "__main__":
    unittest.main()
