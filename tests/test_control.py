import collections
import itertools
import unittest

from oncestream.control import (again, all_tasks, back, begin, first, hear, holders, played, records_of, renewed, source_tasks,
                                torn, written)
from oncestream.outside import agree, committed, fresh_outside, heard, is_letter, last_of
from oncestream.planner import planned
from oncestream.seals import records, sealed, word_text
from oncestream.texts import read_query
from tests.makers import ANYTHING, a_draw, within
from tests.untouched import looked_at

QUERY = read_query("""z: source n number
a: source n number
m: keep z where (0 < n)
b: both a m
out b""")
WORKERS = (("a", 1), ("b", 1), ("m", 2), ("out", 2), ("z", 2))
OTHERS = (("a", 2), ("b", 1), ("m", 1), ("out", 1), ("z", 1))
ALL = (("a", 0), ("b", 0), ("m", 0), ("m", 1), ("out", 0), ("out", 1), ("z", 0), ("z", 1))
SOURCES = (("a", 0), ("z", 0), ("z", 1))
HOLDERS = (("a", 0), ("out", 0), ("out", 1), ("z", 0), ("z", 1))
FIELDS = {"query", "workers", "epoch", "last", "last_epoch", "last_workers", "phase", "kept", "held"}


def control_of(**fields):
    told = {"query": QUERY, "workers": WORKERS, "epoch": 4, "last": 2, "last_epoch": 4, "last_workers": OTHERS, "phase": "run", "kept": (), "held": ()}
    return {**told, **fields}


def disk_of(told):
    return records([word_text(record) for record in told])


class Tasks(unittest.TestCase):
    def test_of_a_query(self):
        self.assertEqual(looked_at(self, all_tasks, QUERY, WORKERS), ALL)
        self.assertEqual(looked_at(self, source_tasks, QUERY, WORKERS), SOURCES)
        self.assertEqual(looked_at(self, holders, QUERY, WORKERS), HOLDERS)
        self.assertEqual(source_tasks(QUERY, OTHERS), (("a", 0), ("a", 1), ("z", 0)))
        self.assertEqual(holders(QUERY, OTHERS), (("a", 0), ("a", 1), ("out", 0), ("z", 0)))

    def test_of_a_plan(self):
        plan = planned(read_query("s: source k text\nt: sum s by k in even 10 with c = count 1\nout t"))[0]
        workers = tuple(sorted((name, 2) for name, _ in plan))
        self.assertEqual([step[0] for _, step in plan[:-1]], ["source", "gather", "finish"])
        self.assertEqual(all_tasks(plan, workers), tuple(sorted((name, number) for name, _ in plan for number in range(2))))
        self.assertEqual((source_tasks(plan, workers), holders(plan, workers)), ((("s", 0), ("s", 1)), (("out", 0), ("out", 1), ("s", 0), ("s", 1))))


class Letters(unittest.TestCase):
    def test_again_in_each_phase(self):
        for phase, letters in (
            ("run", ()), ("drop", (("drop", 4, 2),)), ("commit", (("commit", 3, 2, holders(QUERY, OTHERS)),)),
            ("barrier", tuple(("begin", 4, 3, task) for task in SOURCES)),
        ):
            control = control_of(phase=phase, last_epoch=3)
            self.assertEqual(looked_at(self, again, control), letters)
        for kept in ((), (("z", 0),), (("a", 0), ("b", 0), ("z", 1)), SOURCES, ALL):
            left = tuple(("begin", 4, 3, task) for task in SOURCES if task not in kept)
            self.assertEqual(again(control_of(phase="barrier", kept=kept, held=HOLDERS)), left)
        self.assertTrue(is_letter(again(control_of(phase="commit"))[0]) and is_letter(again(control_of(phase="drop"))[0]))
        self.assertEqual(again(control_of(phase="drop", last=0)), (("drop", 4, 0),))


class Records(unittest.TestCase):
    RIGHT = (("epoch", 1, WORKERS), ("complete", 1, 1, WORKERS), ("epoch", 10 ** 30, ()), ("complete", 7, 12, (("abcdefgh", 4),)), ("epoch", 2, (("a", 1), ("aa", 4), ("b", 2))))
    WRONG = (
        None, True, 5, "epoch", (), ("epoch",), ("epoch", 1), ("epoch", 0, ()), ("epoch", -1, ()), ("epoch", True, ()), ("epoch", None, ()), ("epoch", "1", ()), ("epoch", 1, (), ()),
        ("epoch", 1, 1, ()), ("epoch", 1, None), ("epoch", 1, "a"), ("epoch", 1, 5), ("epoch", 1, (("a", 0),)), ("epoch", 1, (("a", 5),)), ("epoch", 1, (("a", True),)), ("epoch", 1, (("a", None),)),
        ("epoch", 1, (("a",),)), ("epoch", 1, (("a", 1, 1),)), ("epoch", 1, ("a", 1)), ("epoch", 1, (5,)), ("epoch", 1, (None,)), ("epoch", 1, (("", 1),)), ("epoch", 1, (("A", 1),)), ("epoch", 1, (("abcdefghi", 1),)), ("epoch", 1, ((1, "a"),)),
        ("epoch", 1, (("b", 1), ("a", 1))), ("epoch", 1, (("a", 1), ("a", 1))), ("epoch", 1, (("a", 1), ("a", 2))), ("epochs", 1, ()), (None, 1, ()),
        ("complete", 1, ()), ("complete", 0, 1, ()), ("complete", 1, 0, ()), ("complete", 1, True, ()), ("complete", True, 1, ()), ("complete", 1, 1), ("complete", 1, 1, (("a", 0),)),
        ("complete", 1, 1, 1, ()), ("complete", 1, 1, (("b", 1), ("a", 1))), ("complete", 1, "1", ()), (("epoch", 1, ()),),
    )

    def test_right_ones(self):
        for many in range(len(self.RIGHT) + 1):
            for order in itertools.permutations(self.RIGHT, min(many, 2)):
                told = self.RIGHT[:many] + order
                self.assertEqual(looked_at(self, records_of, disk_of(told)), told)
        self.assertEqual(records_of(""), ())

    def test_the_first_that_is_none_ends_them(self):
        for text in [word_text(word) for word in self.WRONG] + ["", "x", "(t5:epochi1;()", "(t5:epochi01;())"]:
            for ahead in ((), self.RIGHT[:2]):
                for behind in ((), self.RIGHT[:1], (None,) + self.RIGHT):
                    disk = disk_of(ahead) + sealed(text) + disk_of(behind)
                    self.assertEqual(records_of(disk), ahead, text)
                    self.assertEqual(looked_at(self, written, disk, [self.RIGHT[1]]), disk_of(ahead + self.RIGHT[1:2]))

    def test_cut_behind_each_number_of_signs(self):
        disk = disk_of(self.RIGHT)
        ends = list(itertools.accumulate([0] + [len(disk_of([told])) for told in self.RIGHT]))
        for keep in range(len(disk) + 1):
            many = len([end for end in ends[1:] if end <= keep])
            self.assertEqual(records_of(disk[:keep]), self.RIGHT[:many])
            self.assertEqual(written(disk[:keep], []), disk[:ends[many]])
            self.assertEqual(written(disk[:keep], [self.RIGHT[0]]), disk[:ends[many]] + disk_of(self.RIGHT[:1]))

    def test_written_and_torn(self):
        disk, more = disk_of(self.RIGHT[:2]), [self.RIGHT[3], self.RIGHT[2]]
        text = disk_of(more)
        for behind in ("", "5:", "abc", sealed("x"), "12:(i5;"):
            self.assertEqual(looked_at(self, written, disk + behind, more), disk + text)
            self.assertEqual(written(disk + behind, tuple(more)), disk + text)
            for keep in list(range(len(text) + 3)) + [10 ** 6]:
                self.assertEqual(torn(disk + behind, more, keep), disk + text[:keep])
            self.assertEqual(torn(disk + behind, [], 7), disk)
            self.assertEqual(torn(disk + behind, tuple(more), 5), disk + text[:5])
        self.assertEqual(looked_at(self, torn, disk, more, 9), disk + text[:9])
        self.assertEqual((written("", []), written("", more)), ("", text))


class Plain:
    """Control told once more, letter by letter."""

    def __init__(self, control):
        self.c = dict(control)

    def hear(self, letter):
        """The records, and whether the phase was changed."""
        c = self.c
        n = c["last"] + 1
        if c["phase"] == "commit" and is_same(letter, ("done", c["last"])):
            c["phase"] = "run" if c["last_epoch"] == c["epoch"] else "drop"
            return [], True
        if c["phase"] == "drop" and is_same(letter, ("dropped", c["epoch"])):
            c["phase"] = "run"
            return [], True
        if c["phase"] == "barrier":
            for word, tasks in (("kept", all_tasks(c["query"], c["workers"])), ("held", holders(c["query"], c["workers"]))):
                for task in tasks:
                    if is_same(letter, (word, c["epoch"], n, task)) and task not in c[word]:
                        c[word] = tuple(sorted(c[word] + (task,)))
            if c["kept"] == all_tasks(c["query"], c["workers"]) and c["held"] == holders(c["query"], c["workers"]):
                c.update(last=n, last_epoch=c["epoch"], last_workers=c["workers"], kept=(), held=(), phase="commit")
                return [("complete", n, c["epoch"], c["workers"])], True
        return [], False


def is_same(one, other):
    """Equal, with integers for integers and tuples for tuples."""
    return repr(one) == repr(other)


def letters_near(control):
    """Letters of the own and of other epochs and numbers, of tasks that are none, of too many parts, with True for 1."""
    found = [("done",), ("dropped",), ("done", 1, 1), ("dropped", 1, 1), ["done", control["last"]], ["dropped", control["epoch"]]]
    for n in (0, 1, 2, 3, 4, 5, True, None, "2", (2,), [2]):
        found += [("done", n), ("dropped", n), ("done", n, 0), ("dropped", n, 0), ("do", n)]
    for word in ("kept", "held", "hold", "begin"):
        for epoch, n in itertools.product((1, 3, 4, True, None), (1, 2, 3, 4, True, None)):
            found += [(word, epoch, n, task) for task in ALL[::3] + (("z", 2), ("x", 0), ("a", 1))]
        for task in (("a", False), ("a", True), ("m", True), ("a",), ("a", 0, 0), ["a", 0], "a", None, ("a", None), (0, "a"), {}, (("a", 0),), ("out", 2)):
            found += [(word, control["epoch"], control["last"] + 1, task)]
        here = (word, control["epoch"], control["last"] + 1, ("a", 0))
        found += [here + (0,), here[:3], list(here), here[:2], ([word],) + here[1:]]
    return found + list(ANYTHING) + [within(30)]


class Heard(unittest.TestCase):
    CONTROLS = [
        control_of(), control_of(phase="drop"), control_of(phase="drop", last=0, last_epoch=0, last_workers=()), control_of(phase="commit"), control_of(phase="commit", last_epoch=3),
        control_of(phase="commit", epoch=1, last=1, last_epoch=1), control_of(phase="drop", epoch=1, last=0, last_epoch=0), control_of(phase="barrier", epoch=1, last=0, last_epoch=0),
        control_of(phase="barrier"), control_of(phase="barrier", kept=ALL[1:], held=HOLDERS), control_of(phase="barrier", kept=ALL, held=HOLDERS[1:]), control_of(phase="barrier", kept=ALL, held=()),
        control_of(phase="barrier", kept=(("m", 0),), held=(("z", 1),)), control_of(phase="barrier", kept=ALL[:3] + ALL[4:], held=HOLDERS),
    ]

    def check(self, control, letter, look=True):
        plain = Plain(control)
        told, is_changed = plain.hear(letter)
        behind, records_told, letters = looked_at(self, hear, control, letter) if look else hear(control, letter)
        self.assertEqual((behind, records_told), (plain.c, told), letter)
        self.assertEqual(set(behind), FIELDS)
        self.assertEqual((type(records_told), type(letters)), (list, tuple))
        self.assertEqual(letters, again(behind) if is_changed else ())
        return is_changed

    def test_each_phase_with_each_letter(self):
        for control in self.CONTROLS:
            changes = sum(self.check(control, letter, at % 8 == 0) for at, letter in enumerate(letters_near(control)))
            if control["phase"] != "barrier":
                self.assertEqual(changes, control["phase"] != "run", control)

    def test_done(self):
        for last_epoch, phase, letters in ((4, "run", ()), (3, "drop", (("drop", 4, 2),))):
            control = control_of(phase="commit", last_epoch=last_epoch)
            self.assertEqual(hear(control, ("done", 2)), (control_of(phase=phase, last_epoch=last_epoch), [], letters))

    def test_dropped(self):
        self.assertEqual(hear(control_of(phase="drop"), ("dropped", 4)), (control_of(), [], ()))

    def test_all_letters_of_a_number(self):
        draw = a_draw(531)
        for _ in range(60):
            control = control_of(phase="barrier")
            letters = [("kept", 4, 3, task) for task in ALL] + [("held", 4, 3, task) for task in HOLDERS]
            draw.shuffle(letters)
            others = letters_near(control)
            for at, letter in enumerate(letters):
                for other in [draw.choice(others) for _ in range(5)] + letters[:at][-3:]:
                    control, told, more = hear(control, other) if draw.random() < 0.5 and other not in letters[at:] else (control, [], ())
                    self.assertEqual((told, more), ([], ()))
                self.assertEqual((control["phase"], control["kept"], control["held"]), (
                    "barrier", tuple(task for task in ALL if ("kept", 4, 3, task) in letters[:at]), tuple(task for task in HOLDERS if ("held", 4, 3, task) in letters[:at])))
                control, told, more = hear(control, letter)
            self.assertEqual(told, [("complete", 3, 4, WORKERS)])
            self.assertEqual(more, (("commit", 4, 3, HOLDERS),))
            self.assertEqual(control, control_of(phase="commit", last=3, last_epoch=4, last_workers=WORKERS))


class Changed(unittest.TestCase):
    def test_first(self):
        control, told, letters = looked_at(self, first, QUERY, WORKERS)
        self.assertEqual(control, control_of(epoch=1, last=0, last_epoch=0, last_workers=(), phase="drop"))
        self.assertEqual((told, letters, set(control)), ([("epoch", 1, WORKERS)], (("drop", 1, 0),), FIELDS))

    def test_begin_in_each_phase(self):
        for phase in ("commit", "drop", "barrier"):
            control = control_of(phase=phase, kept=ALL[:2] if phase == "barrier" else ())
            self.assertEqual(looked_at(self, begin, control), (control, [], ()))
        self.assertEqual(looked_at(self, begin, control_of()), (control_of(phase="barrier"), [], tuple(("begin", 4, 3, task) for task in SOURCES)))

    def test_renewed_in_each_phase(self):
        for phase, now, letters in (("run", "drop", (("drop", 5, 2),)), ("drop", "drop", (("drop", 5, 2),)), ("barrier", "drop", (("drop", 5, 2),)),
                                    ("commit", "commit", (("commit", 4, 2, holders(QUERY, OTHERS)),))):
            for workers in (WORKERS, OTHERS):
                control = control_of(phase=phase, kept=ALL[:2] if phase == "barrier" else (), held=HOLDERS if phase == "barrier" else ())
                told = looked_at(self, renewed, control, workers)
                self.assertEqual(told, (control_of(phase=now, epoch=5, workers=workers), [("epoch", 5, workers)], letters))

    def test_back(self):
        epoch, complete = ("epoch", 3, OTHERS), ("complete", 2, 2, WORKERS)
        for told, awaited in (
            ([], None), ([complete], None), ([epoch], control_of(epoch=4, workers=OTHERS, last=0, last_epoch=0, last_workers=(), phase="drop")),
            ([epoch, complete], control_of(workers=OTHERS, last_epoch=2, last_workers=WORKERS, phase="commit")),
            ([complete, epoch], control_of(workers=OTHERS, last_epoch=2, last_workers=WORKERS, phase="commit")),
            ([epoch, ("complete", 1, 1, ()), ("epoch", 2, WORKERS), complete, ("epoch", 7, OTHERS)], control_of(epoch=8, workers=OTHERS, last_epoch=2, last_workers=WORKERS, phase="commit")),
            ([("epoch", 9, ()), ("epoch", 3, WORKERS)], control_of(epoch=4, last=0, last_epoch=0, last_workers=(), phase="drop")),
        ):
            for behind in ("", "5:", sealed("x"), sealed(word_text(("epoch", 0, ()))) + disk_of([epoch]), sealed(word_text(("epoch", 9, (("b", 1), ("a", 1)))))):
                triple = looked_at(self, back, QUERY, WORKERS, disk_of(told) + behind)
                if awaited is None:
                    self.assertEqual(triple, first(QUERY, WORKERS))
                else:
                    self.assertEqual(triple, (awaited, [("epoch", awaited["epoch"], awaited["workers"])], again(awaited)))
                    self.assertNotEqual(triple[2], ())

    def test_back_from_a_disk_that_is_cut(self):
        told = [("epoch", 1, WORKERS), ("complete", 1, 1, WORKERS), ("epoch", 2, OTHERS), ("complete", 2, 2, OTHERS)]
        disk = disk_of(told)
        for keep in range(len(disk) + 1):
            many = len([at for at in range(1, 5) if len(disk_of(told[:at])) <= keep])
            self.assertEqual(back(QUERY, WORKERS, disk[:keep]), back(QUERY, WORKERS, disk_of(told[:many])))


HEARD = [("hear", (word, 1, 1, task)) for word in ("kept", "held") for task in ALL]


class Played(unittest.TestCase):
    def test_each_happening(self):
        control, told, letters = first(QUERY, WORKERS)
        disk = disk_of(told)
        self.assertEqual(looked_at(self, played, QUERY, WORKERS, []), (control, disk, letters))
        for happening, triple in ((("begin",), begin(control)), (("hear", ("dropped", 1)), hear(control, ("dropped", 1))), (("hear", None), hear(control, None)), (("hear", "begin"), hear(control, "begin")), (("again",), (control, [], letters)),
                                  (("renew", OTHERS), renewed(control, OTHERS)), (("stop",), back(QUERY, WORKERS, disk))):
            awaited = (triple[0], written(disk, triple[1]), letters + triple[2])
            self.assertEqual(looked_at(self, played, QUERY, WORKERS, [happening]), awaited)
            self.assertEqual(played(QUERY, WORKERS, (happening,)), awaited)

    def test_a_number(self):
        control, disk, sent = played(QUERY, WORKERS, [("hear", ("dropped", 1)), ("begin",)] + HEARD + [("again",), ("hear", ("done", 1)), ("again",)])
        begins = tuple(("begin", 1, 1, task) for task in SOURCES)
        commit = ("commit", 1, 1, HOLDERS)
        self.assertEqual((control["phase"], control["last"]), ("run", 1))
        self.assertEqual(records_of(disk), (("epoch", 1, WORKERS), ("complete", 1, 1, WORKERS)))
        self.assertEqual(sent, (("drop", 1, 0),) + begins + (commit, commit))

    def test_torn_with_each_number_of_signs(self):
        ahead = [("hear", ("dropped", 1)), ("begin",)] + HEARD[:-1]
        _, before, sent = played(QUERY, WORKERS, ahead)
        record = disk_of([("complete", 1, 1, WORKERS)])
        for keep in list(range(len(record) + 3)) + [10 ** 6]:
            control, disk, letters = played(QUERY, WORKERS, ahead + [("torn", HEARD[-1], keep)])
            triple = back(QUERY, WORKERS, before + record[:keep])
            self.assertEqual((control, disk, letters), (triple[0], written(before + record[:keep], triple[1]), sent + triple[2]))
            self.assertEqual((control["last"], control["phase"]), (1, "commit") if keep >= len(record) else (0, "drop"))
            self.assertEqual(records_of(disk)[-1], ("epoch", 2, WORKERS))
        renew = disk_of([("epoch", 2, OTHERS)])
        for keep in range(len(renew) + 2):
            control, disk, letters = played(QUERY, WORKERS, [("torn", ("renew", OTHERS), keep)])
            self.assertEqual((control["epoch"], control["workers"]), (3, OTHERS) if keep >= len(renew) else (2, WORKERS))
            self.assertEqual(letters, (("drop", 1, 0), ("drop", control["epoch"], 0)))

    def test_torn_of_what_writes_nothing(self):
        for happening in (("begin",), ("hear", None), ("hear", ("done", 1)), ("hear", ("dropped", 1))):
            for keep in (0, 5, 10 ** 6):
                control, disk, sent = played(QUERY, WORKERS, [("torn", happening, keep)])
                self.assertEqual((control["epoch"], control["phase"], records_of(disk)), (2, "drop", (("epoch", 1, WORKERS), ("epoch", 2, WORKERS))))
                self.assertEqual(sent, (("drop", 1, 0), ("drop", 2, 0)))

    def test_stop_and_again_one_behind_the_other(self):
        control, disk, sent = played(QUERY, WORKERS, [("stop",), ("again",), ("again",), ("stop",), ("stop",), ("again",)])
        self.assertEqual((control["epoch"], len(records_of(disk))), (4, 4))
        self.assertEqual(sent, tuple(("drop", epoch, 0) for epoch in (1, 2, 2, 2, 3, 4, 4)))


class Drawn:
    """A control to which happenings come one by one; it hears mostly of what can be so."""

    def __init__(self, draw, query, workers):
        self.draw, self.query, self.workers, self.happenings = draw, query, workers, []
        self.control, told, letters = first(query, workers)
        self.disk, self.sent = disk_of(told), list(letters)

    def others(self):
        return tuple((name, self.draw.randint(1, 2)) for name, _ in self.workers)

    def a_letter(self):
        control = self.control
        epoch, n = control["epoch"] - (self.draw.random() < 0.05), control["last"] + 1
        if control["phase"] in ("commit", "drop") and self.draw.random() < 0.7:
            return ("done", control["last"]) if control["phase"] == "commit" else ("dropped", epoch)
        word = self.draw.choice(("kept", "held"))
        tasks = [task for task in (all_tasks if word == "kept" else holders)(self.query, control["workers"]) if task not in control[word]]
        return (word, epoch, n, self.draw.choice(tasks or [("a", 0)])) if self.draw.random() < 0.95 else (word, epoch, n - 1, ("a", 0))

    def a_happening(self):
        chance = self.draw.random()
        if chance < 0.85:
            return ("hear", self.a_letter())
        if chance < 0.95:
            return ("begin",)
        return self.draw.choice((("again",), ("renew", self.others()), ("stop",)))

    def done(self, happening):
        """The control, its records and its letters behind what is neither torn nor a stop."""
        if happening[0] == "begin":
            return begin(self.control)
        if happening[0] == "hear":
            return hear(self.control, happening[1])
        return (self.control, [], again(self.control)) if happening[0] == "again" else renewed(self.control, happening[1])

    def happens(self, happening):
        self.happenings.append(happening)
        if happening[0] == "torn":
            self.disk += disk_of(self.done(happening[1])[1])[:happening[2]]
        if happening[0] in ("torn", "stop"):
            self.control, told, letters = back(self.query, self.workers, self.disk)
            self.disk = disk_of(records_of(self.disk))
        else:
            self.control, told, letters = self.done(happening)
        self.disk += disk_of(told)
        self.sent += letters

    def next(self):
        happening = self.a_happening()
        if self.draw.random() < 0.04 and happening[0] not in ("again", "stop"):
            happening = ("torn", happening, self.draw.choice((0, 1, 30, 60, 10 ** 6)))
        self.happens(happening)


class OneRecordDecides(unittest.TestCase):
    """12.7, over many runs: each beginning of the happenings is looked at."""

    QUERY = read_query("a: source n number\nout a")
    WORKERS = (("a", 2), ("out", 1))

    def check_disk(self, told):
        self.assertEqual([record[1] for record in told if record[0] == "complete"], list(range(1, len([record for record in told if record[0] == "complete"]) + 1)))
        epochs = [record[-2] for record in told]
        self.assertEqual(epochs, sorted(epochs))
        self.assertEqual(epochs[0], 1)

    def check_letter(self, letter, told, done, commits):
        if letter[0] == "commit":
            record = [record for record in told if record[:2] == ("complete", letter[2])]
            self.assertEqual([(letter[1], letter[3])], [(one[2], holders(self.QUERY, one[3])) for one in record])
            self.assertEqual(commits.setdefault(letter[2], letter), letter)
        elif letter[0] == "begin":
            self.assertTrue(letter[2] == 1 or letter[2] - 1 in done)
        else:
            self.assertIn(letter[1], [record[1] for record in told if record[0] == "epoch"])
            self.assertEqual(letter[2], max([record[1] for record in told if record[0] == "complete"], default=0))
            self.assertTrue(letter[2] == 0 or letter[2] in done)

    def test_drawn_happenings(self):
        draw, seen = a_draw(532), collections.Counter()
        for _ in range(60):
            run, done, commits, many = Drawn(draw, self.QUERY, self.WORKERS), set(), {}, 0
            for _ in range(80):
                elder = run.control
                run.next()
                if run.happenings[-1] == ("hear", ("done", elder["last"])) and elder["phase"] == "commit":
                    done.add(elder["last"])
                told = records_of(run.disk)
                self.assertEqual(written(run.disk, []), run.disk)
                self.check_disk(told)
                for letter in run.sent[many:]:
                    self.check_letter(letter, told, done, commits)
                    seen[letter[0]] += 1
                many = len(run.sent)
            self.assertEqual(played(self.QUERY, self.WORKERS, run.happenings), (run.control, run.disk, tuple(run.sent)))
            seen[run.control["last"]] += 1
        self.assertGreater(min(seen[word] for word in ("commit", "begin", "drop")), 100)
        self.assertGreater(sum(seen[n] for n in range(2, 20)), 10)

    def hear_of(self, draw, run, outside, air, held_rows):
        """A letter is taken out of the air, or stays there too; returns the outside, and what control hears if anything."""
        letter = air[draw.randrange(len(air))]
        if draw.random() < 0.9:
            air.remove(letter)
        if letter[0] in ("hold", "commit", "drop"):
            outside, answers = heard(outside, letter)
            air.extend(answers)
        elif letter[0] == "begin":
            epoch, n = letter[1:3]
            if epoch == run.control["epoch"] and n > run.control["last"]:
                for task in all_tasks(self.QUERY, run.control["workers"]):
                    held_rows.setdefault((epoch, n, task), tuple((draw.randint(0, 9), 1, ()) for _ in range(draw.randint(0, 2))))
                    air.extend([("kept", epoch, n, task), ("hold", epoch, n, task, held_rows[epoch, n, task])])
        else:
            return outside, letter, ("hear", letter)
        return outside, letter, None

    def test_with_an_outside_that_tells_what_is_so(self):
        """What comes outside is, number by number, what the tasks of one epoch held; nothing complete is lost."""
        draw, numbers = a_draw(533), 0
        for _ in range(40):
            run, outside, to_outside, air, held_rows, many = Drawn(draw, self.QUERY, self.WORKERS), fresh_outside(), [], [], {}, 0
            for _ in range(300):
                air.extend(run.sent[many:])
                many, happening = len(run.sent), None
                if draw.random() < 0.02:
                    happening = draw.choice((("stop",), ("renew", run.others()), ("torn", ("begin",), 9)))
                elif not air or draw.random() < 0.15:
                    happening = draw.choice((("begin",), ("again",)))
                else:
                    outside, letter, happening = self.hear_of(draw, run, outside, air, held_rows)
                    to_outside += [letter] * is_letter(letter)
                    if happening is not None and draw.random() < 0.02:
                        happening = ("torn", happening, draw.choice((0, 20, 10 ** 6)))
                if happening is not None:
                    run.happens(happening)
            completes = [record for record in records_of(run.disk) if record[0] == "complete"]
            self.assertIs(agree(to_outside), True)
            self.assertIn(last_of(outside), (len(completes), len(completes) - 1))
            awaited = collections.Counter()
            for _, n, epoch, workers in completes:
                rows = {task: held_rows[epoch, n, task] for task in all_tasks(self.QUERY, workers)}
                if n <= last_of(outside):
                    awaited.update(row for task in rows if task[0] == "out" for row in rows[task])
            self.assertEqual(committed(outside, "out"), dict(awaited))
            numbers += len(completes)
        self.assertGreater(numbers, 80)

    def test_it_never_waits_for_nothing(self):
        draw, seen = a_draw(534), collections.Counter()
        for _ in range(200):
            run = Drawn(draw, self.QUERY, self.WORKERS)
            for _ in range(draw.randint(0, 40)):
                run.next()
            control = run.control
            seen[control["phase"]] += 1
            last = control["last"]
            for _ in range(2):
                for letter in again(control):
                    if letter[0] in ("commit", "drop"):
                        control = hear(control, ("done", letter[2]) if letter[0] == "commit" else ("dropped", letter[1]))[0]
            if control["phase"] != "barrier":
                self.assertEqual(control["phase"], "run")
                control = begin(control)[0]
            answers = [("kept", control["epoch"], last + 1, task) for task in all_tasks(self.QUERY, control["workers"])]
            answers += [("held", control["epoch"], last + 1, task) for task in holders(self.QUERY, control["workers"])]
            draw.shuffle(answers)
            for letter in answers:
                control = hear(control, letter)[0]
            self.assertEqual((control["last"], control["phase"]), (last + 1, "commit"))
        self.assertEqual(len(seen), 4)


if __name__ == "__main__":
    unittest.main()
