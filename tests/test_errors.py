import unittest

from oncestream import errors

TOLD = {
    "BadValue": (), "BadQuery": ("number", "word"), "BadText": ("place",), "BadInput": ("place",),
    "BadScript": ("number",), "BadBarrier": ("number",), "Blocked": (), "NothingDone": (), "BadDisk": ("place",),
}


class Errors(unittest.TestCase):
    def test_all_stand_directly_beneath_stream_error(self):
        self.assertEqual(errors.StreamError.__bases__, (ValueError,))
        for name in TOLD:
            self.assertEqual(getattr(errors, name).__bases__, (errors.StreamError,), name)

    def test_what_is_told_is_an_attribute(self):
        for name, attributes in TOLD.items():
            for told in (0, None, True, "form", (1, 2), [1, {"a": [2]}], {"a": [1, (2, [3])]}, 10 ** 59):
                error = getattr(errors, name)(*[told for _ in attributes])
                for attribute in attributes:
                    self.assertEqual(getattr(error, attribute), told)
                    self.assertIs(type(getattr(error, attribute)), type(told))

    def test_several_attributes_are_told_apart(self):
        error = errors.BadQuery(3, "form")
        self.assertEqual((error.number, error.word), (3, "form"))
        error = errors.BadQuery(number=4, word="of")
        self.assertEqual((error.number, error.word), (4, "of"))
        self.assertEqual(errors.BadBarrier(number=5).number, 5)

    def test_copies_are_kept(self):
        for name, attributes in TOLD.items():
            for attribute in attributes:
                told = [1, ({"a": [2]}, [3])]
                arguments = [told if other == attribute else 0 for other in attributes]
                error = getattr(errors, name)(*arguments)
                told[1][0]["a"].append(5)
                told[1][0]["b"] = 6
                told[1][1].append(7)
                told.append(8)
                self.assertEqual(getattr(error, attribute), [1, ({"a": [2]}, [3])], (name, attribute))
                self.assertEqual(told, [1, ({"a": [2, 5], "b": 6}, [3, 7]), 8])

    def test_no_argument_is_reached_through_what_python_keeps(self):
        told = ["a"]
        for error in (errors.BadText(told), errors.BadQuery(told, told), errors.BadDisk(told)):
            self.assertFalse(any(kept is told for kept in error.args))

    def test_thirty_within_one_another(self):
        deepest = []
        told = deepest
        for _ in range(29):
            told = [told]
        error = errors.BadInput(told)
        deepest.append(1)
        found = error.place
        for _ in range(29):
            found = found[0]
        self.assertEqual(found, [])


if __name__ == "__main__":
    unittest.main()
