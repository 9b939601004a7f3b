"""Which logs can come of a disk when its plug is pulled."""

from itertools import combinations

from meettrees.checks import is_lot
from meettrees.disks import Disk
from meettrees.errors import BadDisk, BadRow, TooMany
from meettrees.images import MOST_CUT, image_cut, images
from meettrees.logs import log_of
from meettrees.papers import Denial, Paper, fixed
from meettrees.records import are_rows


class Comes(Paper):
    """A lot of held writes by which a cut leaves the log."""

    def __init__(self, landed):
        super().__init__("comes", landed)
        self.landed = self.parts[0]


class Never(Denial):
    """No cut leaves the log."""

    def __init__(self):
        super().__init__("never")


def comings(disk):
    """The logs of all images that a cut can leave now, shorter ones first."""
    found = {}
    for image in images(disk):
        found[log_of(image)] = True
    return tuple(sorted(list(found), key=lambda rows: (len(rows), rows)))


def may_come(disk, rows):
    """The Comes of the first lot by which a cut leaves this log, shorter lots first, or Never."""
    check_coming(disk, rows)
    want = fixed(rows)
    for landed in all_lots(len(disk.held)):
        if log_of(image_cut(disk, landed)) == want:
            return Comes(landed)
    return Never()


def shows_may_come(disk, rows, value):
    """Whether any value is a right paper of may_come."""
    check_coming(disk, rows)
    if isinstance(value, Comes):
        return is_lot(value.landed, len(disk.held)) and log_of(image_cut(disk, value.landed)) == fixed(rows)
    if isinstance(value, Never):
        return fixed(rows) not in comings(disk)
    return False


def all_lots(many):
    """All lots of integers from 0 below many, shorter ones first, those of one length as tuples."""
    return [lot for size in range(many + 1) for lot in combinations(range(many), size)]


def check_coming(disk, rows):
    """Raises what may_come raises."""
    if not isinstance(disk, Disk):
        raise BadDisk("disk")
    if not are_rows(rows):
        raise BadRow("rows")
    if len(disk.held) > MOST_CUT:
        raise TooMany("held", MOST_CUT)
