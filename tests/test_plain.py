"""Plain deeds: what they do to a tree, and why a tree does not let them."""

import itertools
import random
import unittest

from meettrees.plain import changes_by, is_deed, plainly
from meettrees.trees import Tree
from tools import ODD_PATHS, ODD_VALUES, Liar, listed, raised

NONE, FOLDER = ("none",), ("folder",)
PATHS = [path for length in range(1, 4) for path in itertools.product("ab", repeat=length)]
ODD_TEXTS = (None, 1, True, b"a", ["a"], ("a",), "a" * 61, "\n", "%", "\x7f", "\u00e9", "a\t")


def all_deeds(text):
    """All deeds with these paths or the root."""
    spots = PATHS + [()]
    return (
        [("write", path, text) for path in spots] + [("make", path) for path in spots]
        + [("drop", path) for path in spots] + [("move", path, other) for path in spots for other in spots]
    )


def model(values, deed):
    """What the document says of a deed on the tree with these values: the reason and its path, or the changes."""
    word, path, *rest = deed

    def at(spot):
        return FOLDER if spot == () else values.get(spot, NONE)

    def above(spot):
        return [("above", spot[:length]) for length in range(1, len(spot)) if at(spot[:length]) != FOLDER]

    if path == () or word == "move" and rest[0] == ():
        return ("root", ())
    reasons = above(path)
    full = any(other[:-1] == path for other in values)
    own = {
        "write": [("folder", at(path) == FOLDER)], "make": [("there", at(path) != NONE)],
        "drop": [("none", at(path) == NONE), ("full", full)],
        "move": [("none", at(path) == NONE), ("folder", at(path) == FOLDER)],
    }
    reasons += [(why, path) for why, is_so in own[word] if is_so]
    if word == "move":
        reasons += above(rest[0])
        if at(rest[0]) != NONE:
            reasons.append(("there", rest[0]))
    if reasons:
        return reasons[0]
    return {
        "write": lambda: ((path, ("file", rest[0])),), "make": lambda: ((path, FOLDER),),
        "drop": lambda: ((path, NONE),), "move": lambda: ((path, NONE), (rest[0], at(path))),
    }[word]()


def some_tree(dice):
    """The values of a tree by chance."""
    values = {}
    for path in dice.sample(PATHS, len(PATHS)) * 2:
        if dice.random() < 0.4 and (len(path) == 1 or values.get(path[:-1]) == FOLDER):
            values.setdefault(path, dice.choice((FOLDER, FOLDER, ("file", "1"), ("file", ""))))
    return values


class DeedTest(unittest.TestCase):
    def test_deeds(self):
        for deed in all_deeds("~" * 60) + all_deeds("") + [("make", ("a" * 12,) * 6)]:
            self.assertIs(is_deed(deed), True)
            self.assertIs(is_deed(value=listed(deed)), True)
        self.assertIs(is_deed(("write", ["a"], " ")), True)

    def test_none(self):
        for value in ODD_VALUES + (
            (), [], ("make",), ("write", ("a",)), ("write", ("a",), "1", "2"), ("make", ("a",), ("b",)),
            ("drop", ("a",), ""), ("move", ("a",)), ("move", ("a",), ("b",), ("c",)), ("Make", ("a",)),
            ("none", ("a",)), (None, ("a",)), (["make"], ("a",)), (b"make", ("a",)), "make /a", ("make", "/a"),
            ("folder", ("a",)), ("copy", ("a",), ("b",)), {"make": ("a",)}, ("move", ("a",), "1"), ("", ("a",)),
        ):
            self.assertIs(is_deed(value), False, value)
        for value in ((Liar(), ("a",)), (Liar(), ("a",), "1"), ("make", Liar()), ("move", ("a",), Liar()), Liar()):
            self.assertIs(is_deed(value), False)
        for path in ODD_PATHS:
            if path not in ((), []):
                for deed in (("write", path, ""), ("make", path), ("drop", path), ("move", path, ("a",)),
                             ("move", ("a",), path)):
                    self.assertIs(is_deed(deed), False)
        for text in ODD_TEXTS:
            self.assertIs(is_deed(("write", ("a",), text)), False)


class PlainTest(unittest.TestCase):
    def test_all_deeds_on_trees_by_chance(self):
        dice = random.Random(4)
        for _ in range(40):
            values = some_tree(dice)
            tree = Tree(list(values.items()))
            for deed in all_deeds("new"):
                wanted = model(values, deed)
                passed = dice.choice((deed, listed(deed)))
                if isinstance(wanted[0], str):
                    for call in (plainly, changes_by):
                        self.assertEqual(raised(call, tree, passed), ("Refused", *wanted), deed)
                    continue
                self.assertEqual(changes_by(tree, passed), wanted)
                later = {path: value for path, value in {**values, **dict(wanted)}.items() if value != NONE}
                # What a deed leaves is a tree: so it can be made, and nothing else has changed.
                self.assertTrue(plainly(tree, passed) == Tree(list(later.items())))
                self.assertEqual(plainly(tree, passed).at(deed[1]), wanted[0][1])
            self.assertTrue(tree == Tree(list(values.items())))

    def test_every_reason_comes_in_its_place(self):
        tree = Tree([(("a",), FOLDER), (("a", "b"), ("file", "1")), (("c",), ("file", "2")), (("d",), FOLDER)])
        for deed, why, path in (
            (("write", (), "x"), "root", ()), (("make", ()), "root", ()), (("drop", ()), "root", ()),
            (("move", (), ("x", "y")), "root", ()), (("move", ("x", "y"), ()), "root", ()),
            (("move", ("a",), ()), "root", ()), (("move", (), ()), "root", ()),
            (("write", ("x", "y", "z"), ""), "above", ("x",)), (("make", ("c", "y", "z")), "above", ("c",)),
            (("drop", ("a", "b", "z")), "above", ("a", "b")), (("move", ("x", "y"), ("x",)), "above", ("x",)),
            (("write", ("a",), ""), "folder", ("a",)), (("write", ("d",), ""), "folder", ("d",)),
            (("make", ("a",)), "there", ("a",)), (("make", ("c",)), "there", ("c",)),
            (("drop", ("x",)), "none", ("x",)), (("drop", ("a",)), "full", ("a",)),
            (("move", ("x",), ("y", "z")), "none", ("x",)), (("move", ("a",), ("a",)), "folder", ("a",)),
            (("move", ("d",), ("x", "y")), "folder", ("d",)), (("move", ("c",), ("x", "y")), "above", ("x",)),
            (("move", ("c",), ("c", "x")), "above", ("c",)), (("move", ("c",), ("c",)), "there", ("c",)),
            (("move", ("c",), ("a",)), "there", ("a",)), (("move", ("c",), ("a", "b")), "there", ("a", "b")),
            (("move", ("a", "b"), ("a", "b", "c", "d")), "above", ("a", "b")),
        ):
            for passed in (deed, listed(deed)):
                self.assertEqual(raised(plainly, tree, passed), ("Refused", why, path))
                self.assertEqual(raised(changes_by, tree, passed), ("Refused", why, path))
        for deed, changed in (
            (("write", ("c",), "2"), ((("c",), ("file", "2")),)), (("drop", ("d",)), ((("d",), NONE),)),
            (("drop", ("a", "b")), ((("a", "b"), NONE),)), (("make", ("d", "x")), ((("d", "x"), FOLDER),)),
            (("move", ("c",), ("a", "a")), ((("c",), NONE), (("a", "a"), ("file", "2")))),
            (("move", ("a", "b"), ("0",)), ((("a", "b"), NONE), (("0",), ("file", "1")))),
        ):
            self.assertEqual(changes_by(tree, deed), changed)
            self.assertEqual(changes_by(tree=tree, deed=listed(deed)), changed)

    def test_each_tree_comes_of_the_empty_one_and_goes_back(self):
        dice = random.Random(5)
        for _ in range(40):
            wanted = Tree(list(some_tree(dice).items()))
            tree = Tree()
            for path, value in wanted.pairs:
                tree = plainly(tree, ("make", path) if value == FOLDER else ("write", path, value[1]))
            self.assertTrue(tree == wanted)
            for path, _ in reversed(wanted.pairs):
                tree = plainly(tree, ("drop", path))
            self.assertTrue(tree == Tree())

    def test_deepest(self):
        tree = Tree()
        for length in range(1, 7):
            tree = plainly(tree, ("make", ("a" * 12,) * length))
        self.assertEqual(len(tree.pairs), 6)
        tree = plainly(plainly(tree, ("drop", ["a" * 12] * 6)), ["write", ["a" * 12] * 6, "~" * 60])
        self.assertEqual(tree.at(("a" * 12,) * 6), ("file", "~" * 60))

    def test_wrong_in_their_order(self):
        right = Tree()
        for call in (plainly, changes_by):
            for value in ODD_VALUES + ((), [], [(("a",), FOLDER)]):
                self.assertEqual(raised(call, value, None), ("BadTree", "tree"))
            for value in ODD_VALUES + (("make", ("A",)), ("make", ()), ("write", ("a",), None)):
                wanted = ("Refused", "root", ()) if value == ("make", ()) else ("BadDeed", "deed")
                self.assertEqual(raised(call, right, value), wanted)

    def test_what_is_passed_stays(self):
        tree, deed = Tree([(("a",), FOLDER)]), ["write", ["a", "b"], "1"]
        later = plainly(tree, deed)
        self.assertEqual(deed, ["write", ["a", "b"], "1"])
        self.assertEqual((tree.pairs, len(later.pairs)), (((("a",), FOLDER),), 2))
        deed[1][0] = "c"
        self.assertEqual(str(later), "/a folder\n/a/b file 1")
        self.assertEqual(changes_by(tree, ["make", ["c"]]), ((("c",), FOLDER),))


if __name__ == "__main__":
    unittest.main()
