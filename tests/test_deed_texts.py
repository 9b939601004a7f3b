"""Texts of plain deeds."""

import unittest

from meettrees.deed_texts import deed_of, deed_text
from tools import ODD_PATHS, ODD_VALUES, listed, raised

SPOTS = ((), ("a",), ("a", "b0"), ("a" * 12,) * 6)
TEXTS = ("", " ", "  x  ", "1", "/a", "~" * 60, "make /a", "!\"#$&'()*+,-./:;<=>?@[\\]^_`{|}~")


def path_told(path):
    """The text of a path or the root."""
    return "/" + "/".join(path)


class DeedTextTest(unittest.TestCase):
    def test_to_and_fro(self):
        told = [(("write", path, text), f"write {path_told(path)} {text}") for path in SPOTS for text in TEXTS]
        told += [((word, path), f"{word} {path_told(path)}") for word in ("make", "drop") for path in SPOTS]
        told += [
            (("move", path, other), f"move {path_told(path)} {path_told(other)}") for path in SPOTS for other in SPOTS
        ]
        for deed, text in told:
            self.assertEqual(deed_text(deed), text)
            self.assertEqual(deed_text(deed=listed(deed)), text)
            self.assertEqual(deed_of(text), deed)
            self.assertEqual(deed_of(text=text), deed)
            self.assertTrue(all(isinstance(part, (str, tuple)) for part in deed_of(text)))
        self.assertEqual(len({text for _, text in told}), len(told))

    def test_text_of_what_is_no_deed(self):
        for value in ODD_VALUES + ((), [], ("make",), ("write", ("a",)), ("drop", "/a"), "make /a", ("make", ("a",), "")):
            self.assertEqual(raised(deed_text, value), ("BadDeed", "deed"))
        for path in ODD_PATHS:
            if path not in ((), []):
                self.assertEqual(raised(deed_text, ("make", path)), ("BadDeed", "deed"))

    def test_no_string(self):
        for value in (None, True, 0, 1.5, b"make /a", ["make /a"], ("make", ("a",)), {}, object()):
            self.assertEqual(raised(deed_of, value), ("BadText", 0, 0))

    def test_wrong_texts(self):
        for item, texts in (
            (0, ("", " ", " make /a", "Make /a", "maker /a", "mak", "none /a", "/a", "make\t/a", "make/a", "copy /a /b",
                 "make\n", "\n", "write\n/a 1", "x" * 100000)),
            (1, ("make", "make ", "write", "write ", "drop", "move", "move ", "make a", "make  /a", "make //", "make /a/",
                 "make /A", "drop /a\n", "write a 1", "write  /a 1", "move a /b", "move  /b", "make " + "/a" * 7,
                 "make /" + "a" * 13, "write /a\t1", "make \t", "drop -", "make /a//b")),
            (2, ("make /a ", "make /a b", "make / ", "drop /a ", "drop /a  ", "drop /a /b", "write /a", "write /",
                 "write /a a%", "write /a " + "x" * 61, "write /a \n", "write /a \u00e9", "write /a \x7f", "move /a",
                 "move /a ", "move /a b", "move /a  /b", "move /a /b ", "move /a /b /c", "move /a /b/", "move /a /B",
                 "move /a " + "/a" * 7, "move / x", "write /a 1\n", "make /a " + "/" * 90000)),
        ):
            for text in texts:
                self.assertEqual(raised(deed_of, text), ("BadText", 0, item), text[:30])

    def test_what_is_passed_stays(self):
        deed = ["move", ["a"], ["b"]]
        deed_text(deed)
        self.assertEqual(deed, ["move", ["a"], ["b"]])


if __name__ == "__main__":
    unittest.main()
