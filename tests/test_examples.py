"""The examples of the document, as they stand there; names go on from one module to the next.

Those of letters begin with a line of those of codes: they speak of that event, though the name was given away since.
"""

import importlib
import os
import unittest

HERE = os.path.dirname(os.path.abspath(__file__))
MODULES = (
    "errors checks papers blocks disks images records heads logs check_logs codes paths trees plain deed_texts changes "
    "events heard quarrels settlings fates check_settlings deeds settle machines letters worlds histories pictures desk"
).split()


def sections():
    """The pairs of a module and its examples, each example the pair of its line and what it tells."""
    found = []
    with open(os.path.join(HERE, "examples.txt"), encoding="ascii") as file:
        for line in file.read().splitlines():
            if line.startswith("## "):
                found.append((line[3:], []))
            elif line.startswith(">>> "):
                found[-1][1].append([line[4:], None])
            elif line:
                found[-1][1][-1][1] = line
    return found


def all_names():
    """What the examples leave out: the imports."""
    names = {}
    for module in MODULES:
        names.update(vars(importlib.import_module("meettrees." + module)))
    return names


def answered(line, names):
    """What a line gives, as an example tells it; None for a statement."""
    try:
        try:
            code = compile(line, "example", "eval")
        except SyntaxError:
            exec(line, names)
            return None
        value = eval(code, names)
    except names["MeetError"] as error:
        fields = ", ".join(repr(value) for value in vars(error).values())
        return "raises " + type(error).__name__ + ("(" + fields + ")" if fields else "")
    return None if value is None else repr(value)


class ExampleTest(unittest.TestCase):
    def test_examples(self):
        names = all_names()
        run = 0
        for module, examples in sections():
            for line, told in examples:
                with self.subTest(module=module, line=line):
                    # The document writes an error without fields in both ways.
                    self.assertEqual(answered(line, names), told and told.removesuffix("()"))
                run += 1
        self.assertEqual(run, 239)


if __name__ == "__main__":
    unittest.main()
