"""Trees: a value at each path, none at all but some of them."""

from meettrees.checks import is_list
from meettrees.errors import BadPath, BadText, BadTree, Refused
from meettrees.papers import fixed
from meettrees.paths import FOLDER, NONE, ROOT, is_path, is_spot, is_value, path_text, spot_told


class Tree:
    """The tree that has these values at these paths, and none elsewhere."""

    def __init__(self, pairs=()):
        if not are_pairs(pairs):
            raise BadTree("pairs")
        told = fixed(pairs)
        values = {path: value for path, value in told}
        if len(values) < len(told):
            raise BadTree("pairs")
        if not all([hangs_in(values, path) for path in values]):
            raise BadTree("hangs")
        self.pairs = tuple(sorted(told))
        self._values = values

    @staticmethod
    def of_text(text):
        """The tree whose text this is."""
        if not isinstance(text, str):
            raise BadText(0, 0)
        values = {}
        ahead = ROOT
        for index, line in enumerate(text.split("\n") if text else []):
            spot, _, rest = line.partition(" ")
            path = spot_told(spot)
            # The root is refused here, too: it is not greater than what stands ahead of all.
            if path is None or path <= ahead or not hangs_in(values, path):
                raise BadText(index, 0)
            word, blank, behind = rest.partition(" ")
            if word not in ("folder", "file"):
                raise BadText(index, 1)
            value = (word, behind) if blank else (word,)
            if not is_value(value):
                raise BadText(index, 2)
            values[path] = value
            ahead = path
        return tree_with(values)

    def __eq__(self, other):
        return isinstance(other, Tree) and self.pairs == other.pairs

    def __str__(self):
        return "\n".join([path_text(path) + " " + " ".join(value) for path, value in self.pairs])

    def at(self, path):
        """The value at a path or the root."""
        if not is_spot(path):
            raise BadPath("path")
        spot = fixed(path)
        return FOLDER if spot == ROOT else self._values.get(spot, NONE)

    def names(self, path):
        """The last names of all that hangs at a path or the root, ascending."""
        value = self.at(path)
        spot = fixed(path)
        if value != FOLDER:
            raise Refused(value[0], spot)
        return tuple([lower[-1] for lower, _ in self.pairs if lower[:-1] == spot])


def are_pairs(value):
    """Whether any value is a list of pairs of a path and a value that is not none."""
    if not is_list(value) or not all([is_list(pair) and len(pair) == 2 for pair in value]):
        return False
    return all([is_path(path) and is_value(worth) and fixed(worth) != NONE for path, worth in value])


def hangs_in(values, path):
    """Whether the folder of a path is a folder where paths have these values."""
    return len(path) == 1 or values.get(path[:-1]) == FOLDER


def tree_with(values):
    """The tree with these values, none of them none, which are known to hang in folders."""
    tree = Tree()
    tree.pairs = tuple(sorted([(path, values[path]) for path in values]))
    tree._values = {path: value for path, value in tree.pairs}
    return tree
