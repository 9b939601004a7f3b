"""Papers: words, parts, truth, equality."""

import unittest

from meettrees.check_logs import Comes, Never
from meettrees.images import Left, NotLeft
from meettrees.logs import Meaning, Reading
from meettrees.papers import Denial, Paper, fixed

CLASSES = {
    Left: ("landed",), NotLeft: ("at",), Comes: ("landed",), Never: (), Reading: ("rows", "behind", "stamp"),
    Meaning: ("epoch", "half", "first", "rows", "behind", "stamp"),
}
DENIALS = (NotLeft, Never)


class FixedTest(unittest.TestCase):
    def test_lists_become_tuples_all_the_way_in(self):
        self.assertEqual(fixed([1, [2, (3, [4, []])], ()]), (1, (2, (3, (4, ()))), ()))
        deep = []
        for _ in range(30):
            deep = [deep, (deep,)] if _ < 3 else [deep]
        self.assertNotIn("[", repr(fixed(deep)))

    def test_other_values_stay(self):
        for value in (None, True, 0, "[1]", b"", 1.5, {"a": [1]}, {1}, object(), Paper("a")):
            self.assertIs(fixed(value), value)
            self.assertIs(fixed([value])[0], value)

    def test_what_is_passed_stays(self):
        value = [1, [2]]
        fixed(value)
        self.assertEqual(value, [1, [2]])


class PaperTest(unittest.TestCase):
    def test_word_and_parts(self):
        paper = Paper("note", [1, [2]], None, "x")
        self.assertEqual((paper.word, paper.parts), ("note", ((1, (2,)), None, "x")))
        self.assertEqual(Paper("note").parts, ())
        self.assertEqual(Denial("no", [3]).parts, ((3,),))

    def test_truth(self):
        self.assertIs(bool(Paper("note")), True)
        self.assertIs(bool(Paper("note", False)), True)
        self.assertIs(bool(Denial("note", True)), False)

    def test_what_is_below(self):
        self.assertEqual(Denial.__bases__, (Paper,))
        for kind in CLASSES:
            self.assertTrue(issubclass(kind, Paper))
            self.assertIs(issubclass(kind, Denial), kind in DENIALS)

    def test_classes_keep_any_parts(self):
        for kind, fields in CLASSES.items():
            for value in ([1, [2]], None, True, "x", {}, -1):
                values = [value] + list(range(len(fields)))
                values = values[:len(fields)]
                by_place, by_name = kind(*values), kind(**dict(zip(fields, values)))
                for paper in (by_place, by_name):
                    self.assertEqual(paper.word, kind.__name__.lower())
                    self.assertEqual(paper.parts, fixed(values))
                    self.assertIs(bool(paper), kind not in DENIALS)
                    for field, part in zip(fields, paper.parts):
                        self.assertEqual(getattr(paper, field), part)
                self.assertTrue(by_place == by_name)

    def test_equality(self):
        self.assertTrue(Paper("a", 1, [2]) == Paper("a", 1, (2,)))
        self.assertTrue(Paper("a", 1) == Paper("a", True))
        self.assertFalse(Paper("a", 1) != Paper("a", 1))
        self.assertFalse(Paper("a", 1) == Paper("b", 1))
        self.assertFalse(Paper("a", 1) == Paper("a", 2))
        self.assertFalse(Paper("a", 1) == Paper("a", 1, 1))
        self.assertFalse(Paper("a") == Denial("a"))
        self.assertFalse(Denial("a") == Paper("a"))
        self.assertTrue(Denial("a") == Denial("a"))

    def test_equality_with_other_classes(self):
        self.assertFalse(Left([1]) == Comes([1]))
        self.assertFalse(Left([1]) == Paper("left", [1]))
        self.assertFalse(Paper("left", [1]) == Left([1]))
        self.assertFalse(Never() == Denial("never"))
        for value in (None, "a", 1, ("a", ()), [], object(), {}):
            self.assertIs(Paper("a") == value, False)
            self.assertIs(Paper("a") != value, True)

    def test_another_class_of_the_same_name(self):
        other = type("Paper", (), {"word": "a", "parts": ()})()
        self.assertIs(Paper("a") == other, False)

    def test_what_is_changed_later_changes_nothing(self):
        part = [1, [2]]
        paper = Left(part)
        part[1].append(3)
        part.append(4)
        self.assertEqual(paper.parts, ((1, (2,)),))


if __name__ == "__main__":
    unittest.main()
