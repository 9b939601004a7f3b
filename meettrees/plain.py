"""Plain deeds: what they do to a tree, and why a tree may not let them."""

from meettrees.checks import is_list
from meettrees.errors import BadDeed, BadTree, Refused
from meettrees.papers import fixed
from meettrees.paths import FOLDER, NONE, ROOT, is_spot, is_text, uppers_of
from meettrees.trees import Tree, tree_with


def is_deed(value):
    """Whether any value is a plain deed."""
    if not is_list(value) or len(value) < 2 or not isinstance(value[0], str) or not is_spot(value[1]):
        return False
    word, _, *rest = value
    if word in ("make", "drop"):
        return len(rest) == 0
    if len(rest) != 1:
        return False
    if word == "write":
        return is_text(rest[0])
    return word == "move" and is_spot(rest[0])


def plainly(tree, deed):
    """The tree that a plain deed leaves."""
    changed = changes_by(tree, deed)
    values = {path: value for path, value in tree.pairs + changed}
    return tree_with({path: values[path] for path in values if values[path] != NONE})


def changes_by(tree, deed):
    """What a plain deed changes: pairs of a path and the value that is there behind it."""
    if not isinstance(tree, Tree):
        raise BadTree("tree")
    if not is_deed(deed):
        raise BadDeed("deed")
    told = fixed(deed)
    reasons = reasons_against(tree, told)
    if reasons:
        reason, path = reasons[0]
        raise Refused(reason, path)
    return changed_by(tree, told)


def changed_by(tree, deed):
    """What a deed changes that the tree is known to let."""
    word, path, *rest = deed
    if word == "make":
        return ((path, FOLDER),)
    if word == "write":
        return ((path, ("file", rest[0])),)
    if word == "drop":
        return ((path, NONE),)
    return ((path, NONE), (rest[0], tree.at(path)))


def reasons_against(tree, deed):
    """All reasons for which a tree does not let a deed, in their order, each with its path."""
    word, path, *rest = deed
    if path == ROOT or (word == "move" and rest[0] == ROOT):
        return [("root", ROOT)]
    reasons = reasons_above(tree, path) + reasons_at(tree, word, path)
    if word == "move":
        reasons = reasons + reasons_above(tree, rest[0])
        if tree.at(rest[0]) != NONE:
            reasons.append(("there", rest[0]))
    return reasons


def reasons_above(tree, path):
    """The paths above one at which there is no folder, each with its reason, the shortest first."""
    return [("above", upper) for upper in uppers_of(path) if tree.at(upper) != FOLDER]


def reasons_at(tree, word, path):
    """The reason, if there is one, that the path itself has against this word."""
    found = tree.at(path)[0]
    if word == "make":
        reason = "there" if found != "none" else None
    elif word == "write":
        reason = "folder" if found == "folder" else None
    elif found == "none":
        reason = "none"
    elif word == "move":
        reason = "folder" if found == "folder" else None
    else:
        reason = "full" if found == "folder" and tree.names(path) else None
    return [] if reason is None else [(reason, path)]
