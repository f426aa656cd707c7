"""Answers stay what they were when they were written down (tests/answers.txt), whatever it takes to come to them."""

import collections
import unittest

from oncestream.world import calm, new_world, played
from tests.answers import ALONE, ALONE_WORKERS, ENTRIES, FEEDS, FOUR_PARTS, SMALL, SMALL_WORKERS, ordered, told, written_down

WRITTEN = written_down()


class Answers(unittest.TestCase):
    def test_they_are_what_they_were(self):
        for number, word, arguments, answer in WRITTEN:
            with self.subTest(number=number, word=word):
                now = told(word, arguments)
                self.assertEqual(now, answer)
                # 1 and True are equal, but not the same answer.
                self.assertEqual(repr(ordered(now)), repr(ordered(answer)))


class Asked(unittest.TestCase):
    """What they are the answers to."""

    SMALL_WORLD = (SMALL, {"a": 2}, SMALL_WORKERS, 2)

    def test_the_three_inputs(self):
        (_, *control), (_, *falls), (_, *settled) = [case[:3] for case in WRITTEN[:3]]
        self.assertEqual(control, ["control", (ALONE, ALONE_WORKERS, [("renew", ALONE_WORKERS)] * 200)])
        self.assertEqual(falls, ["played", self.SMALL_WORLD + ([("fall",)] * 300,)])
        self.assertEqual(settled, ["calm", self.SMALL_WORLD + (FEEDS,)])
        self.assertEqual(len(WRITTEN[1][3]["world"]["disk"]), 16146)
        self.assertEqual(collections.Counter(entry[0] for entry in ENTRIES), {"row": 58, "mark": 2})
        world, many = calm(played(new_world(*self.SMALL_WORLD), FEEDS))
        self.assertEqual((world, many), (WRITTEN[2][3]["world"], WRITTEN[2][3]["many"]))

    def test_all_kinds_of_events(self):
        words, scripts = collections.Counter(), [arguments for _, word, arguments, _ in WRITTEN if word == "script"]
        for arguments in scripts:
            words.update("torn " + event[1][0] if event[0] == "torn" else event[0] for event in arguments[4])
        self.assertEqual((len(words), len(scripts)), (18, 60))
        self.assertGreater(min(words.values()), 15)
        self.assertGreater(len([arguments for arguments in scripts if len(arguments[1]) == len(FOUR_PARTS)]), 10)
        self.assertGreater(len([arguments for arguments in scripts if len(arguments[4]) == 300]), 10)
        self.assertGreater(len([arguments for arguments in scripts if "gather" in repr(arguments[0])]), 3)

    def test_much_comes_of_them(self):
        answers = [answer for _, word, _, answer in WRITTEN if word == "script"]
        for field, least in (("told", 8), ("calm told", 30), ("cuts", 14), ("calm cuts", 60), ("air", 40)):
            self.assertGreaterEqual(len([answer for answer in answers if len(answer[field]) > 0]), least, field)
        self.assertGreater(len([answer for answer in answers if sum(len(late) for late in answer["late"].values()) > 0]), 3)
        self.assertEqual([answer["right"] for answer in answers], [None] * 60)

    def test_all_kinds_of_happenings(self):
        words, asked = collections.Counter(), [(arguments, answer) for _, word, arguments, answer in WRITTEN if word == "control"]
        for (_, _, happenings), _ in asked[2:]:
            words.update("torn " + happening[1][0] if happening[0] == "torn" else happening[0] for happening in happenings)
        self.assertEqual((set(words), len(asked)), ({"begin", "hear", "again", "renew", "stop", "torn begin", "torn hear", "torn renew"}, 57))
        self.assertGreater(min(words.values()), 20)
        self.assertGreater(len([answer for _, answer in asked if dict(answer["control"])["last"] > 1]), 10)

    def test_houses_and_desks(self):
        shown = collections.Counter()
        for _, word, arguments, answer in WRITTEN:
            if word == "house":
                shown.update(deed if isinstance(deed, str) else deed[0] for deed in arguments[4])
            elif word == "desk":
                shown.update("line " + line.split(" ")[0] for line in arguments[4])
                shown.update("said " + said for said in answer["said"] if said in ("what", "yes", "nothing"))
        for word in ("undo", "redo", "calm", "torn", "fall", "line undo", "line redo", "line why", "line outside", "line due", "line late", "line tasks", "line stand", "line right", "said yes", "said what"):
            self.assertGreater(shown[word], 8, word)


if __name__ == "__main__":
    unittest.main()
