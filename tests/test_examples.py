"""The examples of the document, as they are printed there."""

import os
import re
import unittest

from calls import INTERFACE, function, outcome, shape
from placehues import errors

HERE = os.path.dirname(os.path.abspath(__file__))


def printed():
    """The pairs of what is typed and what is printed, in order."""
    with open(os.path.join(HERE, "printed_examples.txt")) as file:
        lines = file.read().splitlines()
    rows = []
    for line in lines:
        if line.startswith(">>> "):
            rows.append([line[4:], []])
        else:
            rows[-1][1].append(line)
    return [(typed, "\n".join(shown)) for typed, shown in rows]


def names_of_all():
    return {
        head.split("(")[0]: function(file, head.split("(")[0])
        for file, heads in INTERFACE.items() for head in heads
    }


def error_in(shown):
    """The outcome that `raises Name(key=value)` tells."""
    name, inside = re.fullmatch(r"raises (\w+)\((.*)\)", shown).groups()
    error = eval("Error(%s)" % inside, {"Error": getattr(errors, name)})
    return ("raised", name, vars(error))


class Examples(unittest.TestCase):
    def test_each_example(self):
        names = names_of_all()
        asked = 0
        for typed, shown in printed():
            with self.subTest(typed):
                if not shown:
                    exec(typed, names)
                    continue
                asked += 1
                if shown.startswith("raises "):
                    expected = error_in(shown)
                else:
                    expected = ("returned", eval(shown, {}))
                self.assertEqual(shape(outcome(lambda: eval(typed, names))), shape(expected))
        self.assertEqual(asked, 111)


if __name__ == "__main__":
    unittest.main()
