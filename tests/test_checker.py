import collections
import unittest

from oncestream.bags import added, bag_of
from oncestream.checker import came, due_still, judge_history, judge_outside
from oncestream.marks import END
from oncestream.meaning import cut, meaning, places_of, whole
from oncestream.outside import last_of
from oncestream.queries import sources_of
from oncestream.rewritings import unplanned
from oncestream.texts import read_query
from oncestream.world import after, calm, input_of, told_outside
from tests import plainly
from tests.makers import ANYTHING, a_draw, within
from tests.scripting import a_case, a_world, all_feeds, an_event
from tests.untouched import looked_at

QUERY = read_query("clicks: source user text, price number\ntotal: sum clicks by user in even 10 with all = sum price\nout total")
PART = (("row", 3, 1, ("ann", 5)), ("mark", 10), ("row", 12, 1, ("bob", 7)), ("mark", 30))
INPUT, ANN, BOB = {"clicks": (PART, (("mark", 15), ("mark", 40)))}, (9, 1, ("ann", 0, 10, 5)), (19, 1, ("bob", 10, 20, 7))


def at(one, other):
    return {("clicks", 0): one, ("clicks", 1): other}


RIGHT = [(at(0, 0), {}), (at(2, 0), {}), (at(2, 1), {ANN: 1}), (at(2, 1), {ANN: 1}), (at(4, 1), {ANN: 1}), (at(4, 2), {ANN: 1, BOB: 1})]


class Outside(unittest.TestCase):
    def test_judge_outside(self):
        for places, bag in RIGHT:
            self.assertIsNone(looked_at(self, judge_outside, QUERY, INPUT, places, bag))
        for places, bag, awaited in (
            (at(2, 1), {ANN: 2}, (ANN, 2, 1)), (at(2, 1), {}, (ANN, 0, 1)), (at(4, 2), {}, (ANN, 0, 1)), (at(4, 2), {ANN: 1}, (BOB, 0, 1)), (at(4, 2), {ANN: 1, BOB: 3}, (BOB, 3, 1)), (at(1, 2), {ANN: 1}, (ANN, 1, 0)),
            (at(4, 2), {BOB: 2, ANN: 1, (9, -1, ("ann", 0, 10, 5)): 1}, ((9, -1, ("ann", 0, 10, 5)), 1, 0)), (at(0, 0), {BOB: 1, ANN: 4}, (ANN, 4, 0)),
            (at(2, 1), {ANN: 1, (9, 1, (None,)): 1}, ((9, 1, (None,)), 1, 0)), (at(2, 1), {ANN: 1, (9, 1, ("ann", 0, 10, 4)): 2}, ((9, 1, ("ann", 0, 10, 4)), 2, 0)),
        ):
            self.assertEqual(looked_at(self, judge_outside, QUERY, INPUT, places, bag), ("row",) + awaited)

    def test_due_still(self):
        for bag, awaited in (({}, {ANN: 1, BOB: 1}), ({ANN: 1}, {BOB: 1}), ({ANN: 3, BOB: 1}, {}), ({(9, -1, ("ann", 0, 10, 5)): 1}, {ANN: 1, BOB: 1})):
            self.assertEqual(looked_at(self, due_still, QUERY, INPUT, bag), awaited)
        # It is the whole input that is due, also what no mark has closed yet.
        open_input = {"clicks": (PART[:3], ())}
        self.assertEqual((due_still(QUERY, open_input, {}), meaning(QUERY, open_input)), ({ANN: 1, BOB: 1}, {}))
        twice = read_query("s: source n number\nb: both s s\nout b")
        row = (3, 1, (5,))
        self.assertEqual([due_still(twice, {"s": ((("row",) + row,),)}, bag) for bag in ({}, {row: 1}, {row: 2}, {row: 3})], [{row: 2}, {row: 1}, {}, {}])

    def test_came(self):
        self.assertEqual(looked_at(self, came, RIGHT), [{}, {}, {ANN: 1}, {}, {}, {BOB: 1}])
        self.assertEqual(came(tuple(RIGHT[2:])), [{ANN: 1}, {}, {}, {BOB: 1}])
        self.assertEqual((came([]), came([(at(0, 0), {})]), looked_at(self, came, RIGHT[5:])), ([], [{}], [{ANN: 1, BOB: 1}]))
        self.assertEqual(came([(at(0, 0), {ANN: 2}), (at(0, 0), {ANN: 5, BOB: 1})]), [{ANN: 2}, {ANN: 3, BOB: 1}])


class History(unittest.TestCase):
    def judged(self, value):
        return looked_at(self, judge_history, QUERY, INPUT, value)

    def test_right_ones(self):
        for value in (RIGHT, tuple(RIGHT), [], (), RIGHT[:1], RIGHT[3:], RIGHT[::2], [RIGHT[4]] * 5, [(dict(reversed(list(places.items()))), bag) for places, bag in RIGHT]):
            self.assertIsNone(self.judged(value))

    def test_what_is_no_list(self):
        for value in ANYTHING + (within(30, ()), {0: RIGHT[0]}, "RIGHT", 5, None):
            if not isinstance(value, (list, tuple)):
                self.assertEqual(self.judged(value), ("form",))

    def wrong_moments(self):
        places, bag = RIGHT[2]
        found = [value for value in ANYTHING] + [within(30), (), (places,), (places, bag, bag), [places, bag], (bag, places), (places, None), (None, bag), {0: places, 1: bag}]
        for wrong in ({}, {("clicks", 0): 2}, {**places, ("clicks", 2): 0}, {**places, ("x", 0): 0}, {**places, None: 0}, at(-1, 0), at(5, 0), at(0, 3), at(True, 0), at(0, False), at(None, 0), at("2", 0), at(2, (1,)),
                      {("clicks", 0): 2, ("clicks", True): 1}, {("clicks", False): 2, ("clicks", 1): 1}, {("clicks", 0): 2, 1: 1}, {("clicks", 0): 2, ("clicks", "1"): 1}, {("clicks", 0): 2, ("clicks", 1, 0): 1},
                      {("clicks", 0): 2, "clicks": 1}, {("clicks", 0): 2, ("clicks", 2): 1}, [("clicks", 0)], tuple(places.items()), list(places.items())):
            found.append((wrong, bag))
        for wrong in ([ANN], (ANN,), [(ANN, 1)], {ANN: 0}, {ANN: -1}, {ANN: True}, {ANN: None}, {ANN: "1"}, {ANN: (1,)}, {ANN: 1, BOB: 0}, {None: 1}, {"a": 1}, {(): 1}, {(9, 1): 1}, {(9, 1, (), 0): 1}, {(-1, 1, ()): 1},
                      {(True, 1, ()): 1}, {(9, 0, ()): 1}, {(9, 2, ()): 1}, {(9, True, ()): 1}, {(9, 1, None): 1}, {(9, 1, (True,)): 1}, {(9, 1, ("a.b",)): 1}, {(9, 1, ("a" * 13,)): 1}, {(9, 1, ((),)): 1}, {(None, 1, ()): 1},
                      {ANN: 1, ("row",) + ANN: 1}, {("9", 1, ()): 1}):
            found.append((places, wrong))
        return found

    def test_forms(self):
        for value in self.wrong_moments():
            self.assertEqual(self.judged([value]), ("form", 0), value)
            self.assertEqual(judge_history(QUERY, INPUT, RIGHT[:3] + [value]), ("form", 3))
            self.assertEqual(judge_history(QUERY, INPUT, (value,) + tuple(RIGHT)), ("form", 0))

    def test_right_forms_that_are_near(self):
        for row in ((0, 1, ()), (10 ** 59, -1, (None, -10 ** 59, "", "abcdefghijkl")), (9, 1, (1,) * 30)):
            self.assertEqual(self.judged([(at(0, 0), {row: 10 ** 59})]), ("row", 0, row, 10 ** 59, 0))

    def test_back(self):
        for one, other in ((at(2, 1), at(1, 1)), (at(2, 1), at(2, 0)), (at(2, 1), at(4, 0)), (at(4, 1), at(3, 2)), (at(0, 1), at(0, 0))):
            ahead, here = (one, meaning(QUERY, cut(INPUT, one))), (other, meaning(QUERY, cut(INPUT, other)))
            self.assertEqual(self.judged([ahead, here]), ("back", 1))
            self.assertEqual(self.judged([RIGHT[0], ahead, ahead, here]), ("back", 3))
            # Told ahead of a wrong bag at the same moment, and behind its form.
            self.assertEqual(self.judged([ahead, (other, {BOB: 7})]), ("back", 1))
            self.assertEqual(self.judged([ahead, (other, {BOB: 0})]), ("form", 1))

    def test_rows(self):
        self.assertEqual(self.judged([RIGHT[0], (at(2, 1), {})]), ("row", 1, ANN, 0, 1))
        self.assertEqual(self.judged([(at(4, 2), {ANN: 1, BOB: 2})]), ("row", 0, BOB, 2, 1))

    def test_the_first_fault_with_later_ones_behind_it(self):
        faults = {"form": (at(9, 9), {}), "back": (at(0, 0), {}), "row": (at(4, 1), {BOB: 1})}
        for one in faults:
            for other in faults:
                for between in ([], [(at(4, 1), {ANN: 1})]):
                    told = self.judged(RIGHT[:3] + [faults[one]] + between + [faults[other]])
                    self.assertEqual(told, {"form": ("form", 3), "back": ("back", 3), "row": ("row", 3, ANN, 0, 1)}[one])

    def test_without_parts(self):
        self.assertIsNone(judge_history(QUERY, {"clicks": ()}, [({}, {}), ({}, {})]))
        self.assertEqual(judge_history(QUERY, {"clicks": ()}, [({}, {}), ({("clicks", 0): 0}, {})]), ("form", 1))


class ForAll(unittest.TestCase):
    def test_histories_of_worlds(self):
        """The histories of all worlds are right, and a calm run ends at the places of the whole input."""
        draw, moments = a_draw(571), 0
        for _ in range(40):
            query, plan, fed = a_case(draw)
            fed = {name: tuple(part + (("mark", END),) for part in fed[name]) if draw.random() < 0.5 else fed[name] for name in fed}
            world, feeds, looks = a_world(draw, plan, fed), all_feeds(draw, fed), []
            for _ in range(150):
                world = after(world, an_event(draw, world, feeds, 8)) if draw.random() < 0.98 else calm(world)[0]
                looks.append((last_of(world["outside"]), told_outside(world), world["cuts"]))
            world = calm(world)[0]
            looks.append((last_of(world["outside"]), told_outside(world), world["cuts"]))
            here = {name: input_of(world)[name] for name in sources_of(query)}
            history = [(dict(dict(cuts).get(n, ((part, 0) for part in world["logs"]))), bag) for n, bag, cuts in looks]
            self.assertIsNone(judge_history(query, here, history))
            self.assertIsNone(judge_history(unplanned(plan), here, history[::7]))
            self.assertEqual(history[-1][0], places_of(here))
            everything = {}
            for bag in came(history):
                everything = added(everything, bag)
            self.assertEqual(everything, history[-1][1])
            self.assertEqual(added(everything, due_still(query, here, everything)), whole(query, here))
            moments += len({repr(moment) for moment in history})
        self.assertGreater(moments, 100)

    def test_drawn_histories(self):
        draw, words = a_draw(572), collections.Counter()
        for _ in range(300):
            query, _, fed = a_case(draw, steps=4)
            ends, history, places = places_of(fed), [], {part: 0 for part in places_of(fed)}
            for _ in range(draw.randint(0, 5)):
                places = {part: draw.randint(places[part], ends[part]) for part in ends}
                if draw.random() < 0.1:
                    places = {part: draw.randint(0, ends[part]) for part in ends}
                bag = plainly.bag(query, cut(fed, places))
                if draw.random() < 0.15:
                    bag = bag_of([row for row in bag for _ in range(draw.choice((0, 1, 2)))])
                history.append((places, bag))
            awaited = None
            for k, (places, bag) in enumerate(history):
                ahead = history[k - 1][0] if k else places
                due = plainly.bag(query, cut(fed, places))
                unlike = [row for row in {**bag, **due} if bag.get(row, 0) != due.get(row, 0)]
                if any(places[part] < ahead[part] for part in places):
                    awaited = ("back", k)
                elif unlike:
                    row = min(unlike, key=lambda row: (row[0], row[1], [plainly.rank(value) for value in row[2]]))
                    awaited = ("row", k, row, bag.get(row, 0), due.get(row, 0))
                if awaited:
                    break
            self.assertEqual(judge_history(query, fed, history), awaited)
            words[awaited and awaited[0]] += 1
        self.assertGreater(min(words[word] for word in (None, "back", "row")), 15)


if __name__ == "__main__":
    unittest.main()
