"""Paths and the values that stand there."""

import itertools
import unittest

from meettrees.paths import (
    folder_of, is_above, is_path, is_spot, is_value, path_of, path_text, paths_above,
)
from tools import ODD_NAMES, ODD_PATH_VALUES, ODD_PATHS, Liar, listed, raised

LONG = "abcdefghij09"
PATHS = [path for length in range(1, 4) for path in itertools.product(("a", "b", "ab"), repeat=length)]
PATHS += [("a",) * 6, (LONG,) * 6, ("0", "9", "z", LONG)]


class PathTest(unittest.TestCase):
    def test_paths(self):
        for path in PATHS:
            for value in (path, list(path)):
                self.assertIs(is_path(value), True)
                self.assertIs(is_spot(value), True)

    def test_the_root_is_no_path(self):
        for root in ((), []):
            self.assertIs(is_path(root), False)
            self.assertIs(is_spot(root), True)

    def test_lengths(self):
        for length in range(9):
            self.assertIs(is_path(["a"] * length), 1 <= length <= 6)
            self.assertIs(is_spot(("a",) * length), length <= 6)
        for length in range(15):
            self.assertIs(is_path(["a" * length]), 1 <= length <= 12)
            self.assertIs(is_spot(["b", "a" * length]), 1 <= length <= 12)

    def test_signs(self):
        for code in range(256):
            right = chr(code) in "abcdefghijklmnopqrstuvwxyz0123456789"
            self.assertIs(is_path([chr(code)]), right)
            self.assertIs(is_spot(["a", "b" + chr(code)]), right)

    def test_none(self):
        for value in ODD_PATHS:
            self.assertIs(is_path(value), False)
            if value not in ((), []):
                self.assertIs(is_spot(value), False)
        for name in ODD_NAMES:
            for value in ([name], (name, "a"), ["a", "a", "a", "a", "a", name]):
                self.assertIs(is_path(value), False)
                self.assertIs(is_spot(value), False)


class ValueTest(unittest.TestCase):
    def test_values(self):
        for value in (("none",), ("folder",), ("file", ""), ("file", "a"), ("file", " "), ("file", "~" * 60)):
            self.assertIs(is_value(value), True)
            self.assertIs(is_value(list(value)), True)

    def test_lengths_of_texts(self):
        for length in (0, 1, 2, 59, 60, 61, 62, 100000):
            self.assertIs(is_value(("file", "x" * length)), length <= 60)

    def test_characters(self):
        for code in list(range(300)) + [0x2028, 0xffff, 0x1f600]:
            right = 32 <= code <= 126 and code != 37
            for text in (chr(code), "a" + chr(code), chr(code) + "b", "a" * 59 + chr(code)):
                self.assertIs(is_value(("file", text)), right, code)

    def test_none(self):
        for value in ODD_PATH_VALUES:
            self.assertIs(is_value(value), False, value)
        for value in ((Liar(),), (Liar(), "a"), ("file", Liar()), Liar()):
            self.assertIs(is_value(value), False)


class AboveTest(unittest.TestCase):
    def test_pairs(self):
        for one in PATHS + [()]:
            for other in PATHS + [()]:
                wanted = any(other[:length] == one for length in range(len(other)))
                self.assertIs(is_above(one, other), wanted)
                self.assertIs(is_above(list(one), other), wanted)
                self.assertIs(is_above(one=one, other=list(other)), wanted)

    def test_wrong_in_their_order(self):
        for value in ODD_PATHS:
            if value not in ((), []):
                self.assertEqual(raised(is_above, value, None), ("BadPath", "one"))
                self.assertEqual(raised(is_above, (), value), ("BadPath", "other"))

    def test_folders_and_paths_above(self):
        for path in PATHS:
            for value in (path, list(path)):
                self.assertEqual(folder_of(value), tuple(path[:-1]))
                self.assertEqual(paths_above(path=value), tuple(path[:length] for length in range(1, len(path))))
                self.assertIsInstance(folder_of(value), tuple)
        self.assertEqual(paths_above(["a"] * 6)[-1], ("a",) * 5)

    def test_only_paths(self):
        for value in ODD_PATHS + ((), []):
            self.assertEqual(raised(folder_of, value), ("BadPath", "path"))
            self.assertEqual(raised(paths_above, value), ("BadPath", "path"))

    def test_what_is_passed_stays(self):
        one, other = ["a"], ["a", "b"]
        is_above(one, other), folder_of(other), paths_above(other), path_text(other)
        self.assertEqual((one, other), (["a"], ["a", "b"]))


class PathTextTest(unittest.TestCase):
    def test_to_and_fro(self):
        for path in PATHS + [()]:
            text = "".join("/" + name for name in path) or "/"
            self.assertEqual(path_text(path), text)
            self.assertEqual(path_text(listed(path)), text)
            self.assertEqual(path_of(text), path)
            self.assertIsInstance(path_of(text), tuple)

    def test_text_of_what_is_none(self):
        for value in ODD_PATHS:
            if value not in ((), []):
                self.assertEqual(raised(path_text, value), ("BadPath", "path"))

    def test_wrong_texts(self):
        for text in ("", "a", "a/b", "//", "/a/", "//a", "/a//b", "/a ", " /a", "/a b", "/A", "/a\n", "\n", "/-", "/./a",
                     "/a" * 7, "/" + "a" * 13, "/a/" + "a" * 13, "/" * 100000, "/a" * 50000, "\\a", "/\u00e9"):
            self.assertEqual(raised(path_of, text), ("BadText", 0, 0), text[:20])
        for value in (None, True, 0, 1.5, b"/a", ["/a"], ("/a",), ("a",), {}, object()):
            self.assertEqual(raised(path_of, value), ("BadText", 0, 0))
        self.assertEqual(path_of("/a" * 6), ("a",) * 6)
        self.assertEqual(path_of(text="/" + LONG), (LONG,))


if __name__ == "__main__":
    unittest.main()
