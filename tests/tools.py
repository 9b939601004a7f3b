"""What several tests use."""

import itertools

from meettrees.disks import Disk
from meettrees.errors import MeetError

ODD_VALUES = (
    None, True, False, -1, "", "a", "12", 1.5, b"", b"\x00" * 16, {}, {0: 1}, set(), object(), [None], [[]],
    (True,), [True] * 16, [0.0] * 16, ["0"] * 16, range(16), 10 ** 999, -(10 ** 999), [10 ** 999],
)


class Liar:
    """What says that it is equal to anything, but is nothing else."""

    def __eq__(self, other):
        return True


def raised(call, *args, **more):
    """The name and the fields of the MeetError that a call raises; None if it raises none."""
    try:
        call(*args, **more)
    except MeetError as error:
        return (type(error).__name__, *vars(error).values())
    return None


def block(*numbers):
    """A block that begins with these numbers."""
    return tuple(numbers) + (0,) * (16 - len(numbers))


def disk_with(image, held):
    """A disk with this image and these held writes."""
    disk = Disk.of(image)
    for at, what in held:
        disk.write(at, what)
    return disk


def copy_of(disk):
    """A second disk that is equal."""
    return disk_with(disk.image, disk.held)


def lots(many):
    """All lots of numbers below many, shorter ones first, those of one length as tuples."""
    return [lot for size in range(many + 1) for lot in itertools.combinations(range(many), size)]


def cut_image(disk, lot):
    """What a true cut leaves, on a disk of its own."""
    other = copy_of(disk)
    other.cut(lot)
    return other.image


def listed(value):
    """The value with lists in the place of tuples, all the way in."""
    return [listed(part) for part in value] if isinstance(value, (list, tuple)) else value


ODD_NAMES = ("", "a" * 13, "A", "a b", "a/b", "a\n", "-", "\u00e9", None, 1, True, b"a", ["a"], ("a",))
ODD_PATHS = ODD_VALUES + ("/a", range(2), {"a"}, {"a": 1}, ["a"] * 7) + tuple(["a", name] for name in ODD_NAMES)
ODD_PATH_VALUES = ODD_VALUES + (
    "none", "folder", "file", (), [], ("",), ("file",), ("none", ""), ("folder", ""), ("none", None), ("file", None),
    ("file", 1), ("file", b"a"), ("file", ["a"]), ("file", "a", "b"), ("file", "a" * 61), ("file", "\n"),
    ("file", "\u00e9"), ("file", "a%"), ("file", "\x7f"), ("file", "\t"), ("File", "a"), ("text", "a"), (None,),
    (["none"],), ("none",) * 3, {"none"}, {"file": "a"},
)
# No ids of changes, where nothing is heard of a machine 9, and no machine made more than 8 events, with 13 changes each.
NO_IDS = ODD_VALUES + (
    (), (0,), (0, 1), (0, 1, 0, 0), (0, 0, 0), (0, -1, 0), (-1, 1, 0), (0, 1, -1), (0, 1, 13), (0, 9, 0), (9, 1, 0), "010",
    (True, 1, 0), (0, True, 0), (0, 1, False), (0.0, 1, 0), (0, 1, 0.0), ("0", 1, 0), (None,) * 3, ((0, 1), 0), [[0, 1, 0]],
    {0, 1}, {(0, 1, 0)}, range(3), (0, 10 ** 999, 0), (0, 1, 10 ** 999), (10 ** 999, 1, 0),
)
NO_MACHINES = ODD_VALUES + (9, 10, 0.0, 1.0, (0,), [1], "0")
ODD_DEEDS = ODD_VALUES + (
    (), "make", ("make",), ("make", (), ""), ("make", "/a"), ("make", ("A",)), ("drop", ("a",), None), ("write", ("a",)),
    ("write", ("a",), None), ("write", ("a",), "a" * 61), ("write", ("a",), "%"), ("write", ("a",) * 7, ""), ("move", ("a",)),
    ("move", ("a",), "b"), ("move", ("a",), ("b",), ("c",)), ("copy", ("a",), ("b",)), (["make"], ("a",)), ("Make", ("a",)),
    {"make", "a"},
)
