"""Trees, and their texts."""

import itertools
import random
import time
import unittest

from meettrees.trees import Tree
from tools import ODD_PATH_VALUES, ODD_PATHS, ODD_VALUES, listed, raised

NONE, FOLDER = ("none",), ("folder",)
PATHS = [path for length in range(1, 4) for path in itertools.product(("a", "a0", "b"), repeat=length)]


def some_pairs(dice, many=12):
    """The pairs of a tree by chance, in any order."""
    values = {}
    for _ in range(many):
        path = dice.choice(PATHS)
        if len(path) == 1 or values.get(path[:-1]) == FOLDER:
            values.setdefault(path, dice.choice((FOLDER, FOLDER, ("file", ""), ("file", " x "), ("file", "folder"))))
    pairs = list(values.items())
    dice.shuffle(pairs)
    return pairs


def text_told(pairs):
    """The text of a tree with these pairs, as the document tells it."""
    lines = []
    for path, value in sorted(pairs):
        lines.append("".join("/" + name for name in path) + (" folder" if value == FOLDER else " file " + value[1]))
    return "\n".join(lines)


class TreeTest(unittest.TestCase):
    def test_trees_by_chance(self):
        dice = random.Random(1)
        for _ in range(100):
            pairs = some_pairs(dice)
            tree = Tree(pairs)
            self.assertEqual(tree.pairs, tuple(sorted(pairs)))
            self.assertTrue(tree == Tree(pairs=listed(pairs)))
            self.assertEqual(Tree(listed(pairs)).pairs, tree.pairs)
            values = dict(pairs)
            for path in PATHS + [()]:
                value = FOLDER if path == () else values.get(path, NONE)
                for passed in (path, list(path)):
                    self.assertEqual(tree.at(passed), value)
                    if value == FOLDER:
                        hanging = sorted(other[-1] for other in values if other[:-1] == path)
                        self.assertEqual(tree.names(path=passed), tuple(hanging))
                    else:
                        self.assertEqual(raised(tree.names, passed), ("Refused", value[0], path))

    def test_the_empty_tree(self):
        for tree in (Tree(), Tree([]), Tree(()), Tree(pairs=()), Tree.of_text("")):
            self.assertEqual((tree.pairs, str(tree), tree.names(()), tree.at([])), ((), "", (), FOLDER))
            self.assertEqual(tree.at(("a",) * 6), NONE)

    def test_bounds(self):
        deep = [(("a",) * length, FOLDER) for length in range(1, 6)]
        tree = Tree(deep[::-1] + [(("a",) * 6, ("file", "~" * 60)), (("a" * 12,), ("file", ""))])
        self.assertEqual((len(tree.pairs), tree.names(["a"] * 5), tree.names(())), (7, ("a",), ("a", "a" * 12)))
        self.assertEqual(raised(tree.names, ["a"] * 6), ("Refused", "file", ("a",) * 6))
        self.assertTrue(Tree.of_text(str(tree)) == tree)

    def test_equal_exactly_if_their_texts_are(self):
        dice = random.Random(2)
        trees = [Tree(some_pairs(dice, many)) for many in (1, 2, 3, 4) for _ in range(25)]
        for one in trees:
            for other in trees:
                self.assertIs(one == other, one.pairs == other.pairs)
                self.assertEqual(one == other, str(one) == str(other))
        for other in (None, (), "", 0, object()):
            self.assertIs(Tree() == other, False)

    def test_what_is_passed_stays_and_is_copied(self):
        pairs = [[["b"], ["file", "1"]], [["a"], ["folder"]]]
        tree = Tree(pairs)
        self.assertEqual(pairs, [[["b"], ["file", "1"]], [["a"], ["folder"]]])
        pairs[0][0][0] = "c"
        pairs.pop()
        self.assertEqual(tree.pairs, ((("a",), FOLDER), (("b",), ("file", "1"))))
        self.assertEqual((tree.at(("b",)), tree.at(("c",))), (("file", "1"), NONE))

    def test_two_trees_share_nothing(self):
        Tree([(("a",), FOLDER)])
        self.assertEqual(Tree().pairs, ())


class WrongTreeTest(unittest.TestCase):
    def test_no_pairs(self):
        right = (("a",), FOLDER)
        for value in ODD_VALUES:
            self.assertEqual(raised(Tree, value), ("BadTree", "pairs"))
            self.assertEqual(raised(Tree, [right, value]), ("BadTree", "pairs"))
        for pair in ((), (("b",),), (("b",), FOLDER, FOLDER), "ab", {("b",): FOLDER}, (("b",), NONE), [["b"], ["none"]]):
            self.assertEqual(raised(Tree, [right, pair]), ("BadTree", "pairs"))
        for path in ODD_PATHS + ((), []):
            self.assertEqual(raised(Tree, [(path, FOLDER)]), ("BadTree", "pairs"))
        for value in ODD_PATH_VALUES:
            self.assertEqual(raised(Tree, ((("a",), value),)), ("BadTree", "pairs"))

    def test_one_path_twice(self):
        for one in (FOLDER, ("file", "1")):
            for other in (FOLDER, ("file", "1"), ("file", "2")):
                self.assertEqual(raised(Tree, [(("a",), one), (["a"], other)]), ("BadTree", "pairs"))

    def test_what_does_not_hang(self):
        for pairs in ([(("a", "b"), FOLDER)], [(("a",), ("file", "")), (("a", "b"), FOLDER)],
                      [(("a",), FOLDER), (("a", "b", "c"), FOLDER)], [(("a0",), FOLDER), (("a", "b"), ("file", ""))]):
            self.assertEqual(raised(Tree, pairs), ("BadTree", "hangs"))
            self.assertEqual(raised(Tree, listed(pairs[::-1])), ("BadTree", "hangs"))

    def test_pairs_come_ahead_of_hangs(self):
        hangs = (("a", "b"), FOLDER)
        self.assertEqual(raised(Tree, [hangs, (("c",), NONE)]), ("BadTree", "pairs"))
        self.assertEqual(raised(Tree, [hangs, hangs]), ("BadTree", "pairs"))

    def test_at_and_names(self):
        tree = Tree([(("a",), FOLDER)])
        for path in ODD_PATHS:
            if path not in ((), []):
                self.assertEqual(raised(tree.at, path), ("BadPath", "path"))
                self.assertEqual(raised(tree.names, path), ("BadPath", "path"))
        self.assertEqual(raised(tree.names, ["a", "b"]), ("Refused", "none", ("a", "b")))


class TextTest(unittest.TestCase):
    def test_to_and_fro(self):
        dice = random.Random(3)
        for _ in range(100):
            pairs = some_pairs(dice)
            text = text_told(pairs)
            self.assertEqual(str(Tree(pairs)), text)
            self.assertTrue(Tree.of_text(text) == Tree(pairs))
            self.assertEqual(Tree.of_text(text=text).pairs, Tree(pairs).pairs)
            self.assertEqual(Tree.of_text(text).at(("a",)), Tree(pairs).at(("a",)))

    def test_texts_of_files(self):
        for text in ("", " ", "  x  ", "folder", "file 1", "/a folder", "~" * 60, " " * 60, "!\"#$&'()*+,-./:;<=>?@[\\]^_`{|}"):
            tree = Tree([(("a",), ("file", text))])
            self.assertEqual(str(tree), "/a file " + text)
            self.assertTrue(Tree.of_text("/a file " + text) == tree)

    def test_no_string(self):
        for value in (None, True, 0, 1.5, b"", b"/a folder", [], (), ["/a folder"], {}, object()):
            self.assertEqual(raised(Tree.of_text, value), ("BadText", 0, 0))

    def check_lines(self, ahead, lines):
        """Each line, behind those ahead, is refused at its item; None if it can stand."""
        for line, item in lines:
            wanted = None if item is None else ("BadText", len(ahead), item)
            self.assertEqual(raised(Tree.of_text, "\n".join(ahead + [line])), wanted, line)
            # What stands behind a wrong line makes no difference.
            if item is not None:
                self.assertEqual(raised(Tree.of_text, "\n".join(ahead + [line, "/zz", ""])), wanted, line)

    def test_wrong_first_lines(self):
        self.check_lines([], [
            ("/", 0), ("/ folder", 0), ("a folder", 0), (" /a folder", 0), ("/A folder", 0), ("/a/ folder", 0),
            ("//a folder", 0), ("/a\tfolder", 0), (" ", 0), ("folder", 0), ("/a/b folder", 0), ("/a/b", 0),
            ("/" + "a" * 13 + " folder", 0), ("/" + "a" * 12 + " folder", None), ("/a\r", 0),
            ("/a", 1), ("/a ", 1), ("/a  folder", 1), ("/a none", 1), ("/a none ", 1), ("/a Folder", 1),
            ("/a folders", 1), ("/a fil", 1), ("/a filed 1", 1), ("/a folder\r", 1), ("/a file\t1", 1), ("/a  file 1", 1),
            ("/a folder ", 2), ("/a folder x", 2), ("/a folder  ", 2), ("/a file", 2), ("/a file " + "x" * 61, 2),
            ("/a file a%", 2), ("/a file \t", 2), ("/a file \u00e9", 2), ("/a file \r", 2), ("/a file \x7f", 2),
            ("/a folder", None), ("/a file ", None), ("/a file  ", None), ("/a file " + "x" * 60, None),
        ])

    def test_wrong_later_lines(self):
        self.check_lines(["/a folder", "/a/b folder", "/c file 1"], [
            ("", 0), ("/a folder", 0), ("/c file 1", 0), ("/c folder", 0), ("/b folder", 0), ("/a/c folder", 0),
            ("/c/a folder", 0), ("/d/e folder", 0), ("/a/b/c folder", 0), ("/ folder", 0), ("/ ", 0),
            ("/d", 1), ("/d filo", 1), ("/d file", 2), ("/d folder ", 2), ("/c0 folder", None), ("/d file ", None),
        ])
        self.check_lines(["/a folder", "/a/b folder"], [
            ("/a/b/c folder", None), ("/a/b/c/d folder", 0), ("/a/c file 1", None), ("/a/b folder", 0), ("/a0 file ", None),
            ("/a/a folder", 0), ("/a0/b file ", 0), ("/a/b0 folder", None),
        ])

    def test_first_wrong_line_is_told(self):
        self.assertEqual(raised(Tree.of_text, "/a folder\n/b\n/c"), ("BadText", 1, 1))
        self.assertEqual(raised(Tree.of_text, "/a folder\n"), ("BadText", 1, 0))
        self.assertEqual(raised(Tree.of_text, "\n"), ("BadText", 0, 0))
        self.assertEqual(raised(Tree.of_text, "\n/a folder"), ("BadText", 0, 0))
        self.assertEqual(raised(Tree.of_text, "/a folder\n\n/b folder"), ("BadText", 1, 0))
        self.assertEqual(raised(Tree.of_text, "/a folder\r\n/b folder"), ("BadText", 0, 1))
        self.assertEqual(raised(Tree.of_text, "/a file 1\r\n/b folder"), ("BadText", 0, 2))
        self.assertEqual(raised(Tree.of_text, "/b folder\n/a folder"), ("BadText", 1, 0))

    def test_deepest_line(self):
        text = "\n".join("/a" * length + " folder" for length in range(1, 7))
        self.assertEqual(len(Tree.of_text(text).pairs), 6)
        self.assertEqual(raised(Tree.of_text, text + "\n" + "/a" * 7 + " folder"), ("BadText", 6, 0))

    def test_large_trees_come_quickly(self):
        begin = time.monotonic()
        pairs = [((f"n{index:05d}",), ("folder",)) for index in range(10000)]
        tree = Tree(pairs[::-1])
        self.assertEqual(len(tree.names(())), 10000)
        text = str(Tree(pairs[:5000]))
        self.assertEqual(len(Tree.of_text(text).pairs), 5000)
        self.assertEqual(raised(Tree.of_text, "\n" * 100000), ("BadText", 0, 0))
        self.assertLess(time.monotonic() - begin, 10)


if __name__ == "__main__":
    unittest.main()
