"""Pictures: what a disk holds, and what quarrels, to be seen at a glance."""

from meettrees.disks import Disk
from meettrees.errors import BadDisk
from meettrees.heard import check_heard
from meettrees.paths import path_text
from meettrees.quarrels import foes_among, live_entries
from meettrees.settlings import shown_among

NO_TEXT = "-"


def disk_picture(disk):
    """A character for each number of a disk."""
    if not isinstance(disk, Disk):
        raise BadDisk("disk")
    signs = ["#" if any(block) else "." for block in disk.image]
    for at, _ in disk.held:
        signs[at] = "+"
    return "".join(signs)


def web(heard):
    """A row for each live change: whether it is shown, with which ones it quarrels, and what it says."""
    check_heard(heard)
    entries = live_entries(heard)
    foes = foes_among(entries)
    lot = {key: True for key in shown_among(foes)}
    rows = []
    for key, _, told in entries:
        sign = "*" if key in lot else "-"
        rows.append(" : ".join([sign + " " + words_text(key), ids_text(foes[key]), change_text(told)]))
    return tuple(rows)


def words_text(words):
    """Integers, names or words with single blanks between; a sign of its own for none."""
    return " ".join([str(word) for word in words]) or NO_TEXT


def ids_text(ids):
    """All integers of some ids, with single blanks between."""
    return words_text([part for key in ids for part in key])


def change_text(told):
    """The text of a change."""
    path, value = told
    return path_text(path) + " " + " ".join(value)
