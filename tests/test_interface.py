"""Each example of the document's interface, as it stands there (tests/interface.txt)."""

import ast
import os
import unittest

from oncestream import errors

PATH = os.path.join(os.path.dirname(__file__), "interface.txt")


def examples():
    """The list of (heading, code, lines told)."""
    found, heading = [], None
    with open(PATH, encoding="utf-8") as lines:
        for line in lines:
            line = line.rstrip("\n")
            if line.startswith("#"):
                heading = line.strip("# ")
            elif line.startswith("    >>> "):
                found.append((heading, line[8:], []))
            elif line.startswith("    "):
                found[-1][2].append(line[4:])
    return found


class Interface(unittest.TestCase):
    def check_error(self, code, names, told):
        awaited = eval(told, dict(vars(errors)))
        with self.assertRaises(type(awaited)) as caught:
            exec(code, names)
        self.assertIs(type(caught.exception), type(awaited))
        for attribute in vars(awaited):
            self.assertEqual(getattr(caught.exception, attribute), getattr(awaited, attribute))

    def test_examples(self):
        names, done = {}, 0
        for heading, code, told in examples():
            with self.subTest(heading=heading, code=code):
                if told and told[0].startswith("raises "):
                    self.check_error(code, names, told[0][len("raises "):])
                elif isinstance(ast.parse(code).body[0], ast.Expr):
                    self.assertEqual([repr(eval(code, names))], told)
                else:
                    self.assertEqual(told, [])
                    exec(code, names)
                done += 1
        self.assertGreater(done, 40)


if __name__ == "__main__":
    unittest.main()
