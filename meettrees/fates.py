"""Fates: what became of a change that is heard."""

from meettrees.heard import check_change, check_heard
from meettrees.papers import Denial, Paper, fixed
from meettrees.quarrels import foes_among, live_entries, overruler
from meettrees.settlings import is_barred


class Everywhere(Paper):
    """Each settling has the change with this id."""

    def __init__(self, key):
        super().__init__("everywhere", key)
        self.key = self.parts[0]


class Disputed(Paper):
    """Two settlings: the first one has the change, the second one has not."""

    def __init__(self, with_it, without):
        super().__init__("disputed", with_it, without)
        self.with_it, self.without = self.parts


class Overruled(Denial):
    """The id of a change that overrules it."""

    def __init__(self, by):
        super().__init__("overruled", by)
        self.by = self.parts[0]


def fate(heard, key):
    """The paper that is right for the change with this id."""
    check_heard(heard)
    check_change(heard, key)
    by = overruler(heard, key)
    if by is not None:
        return Overruled(by)
    foes = foes_among(live_entries(heard))
    mine = fixed(key)
    if not foes[mine]:
        return Everywhere(mine)
    return Disputed(settling_with(mine, foes), settling_with(foes[mine][0], foes))


def settling_with(key, foes):
    """A settling that has this live id, given those with which each of them quarrels."""
    taken = {key: True}
    for other in foes:
        if not is_barred(other, taken, foes):
            taken[other] = True
    return tuple(sorted(taken))
