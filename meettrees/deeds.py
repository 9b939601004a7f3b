"""Deeds on the tree that is shown: which ones are let, and the events that they make."""

from meettrees.errors import BadDeed, BadPath, Refused
from meettrees.events import Event
from meettrees.heard import check_heard, check_machine
from meettrees.papers import fixed
from meettrees.paths import FOLDER, begins_with, is_path
from meettrees.plain import changes_by, is_deed
from meettrees.quarrels import foes_among, live_entries
from meettrees.settlings import changes_among, fills_by, shown_among, tree_by


def unsettled(heard, path):
    """Whether a live change that quarrels has this path, one above it or one below it."""
    check_heard(heard)
    if not is_path(path):
        raise BadPath("path")
    entries = live_entries(heard)
    return is_in_line(fixed(path), paths_at_odds(entries, foes_among(entries)))


def event_for(heard, machine, deed):
    """The event of a deed that is let."""
    check_heard(heard)
    check_machine(heard.machines, machine)
    if not is_deed(deed):
        raise BadDeed("deed")
    entries = live_entries(heard)
    foes = foes_among(entries)
    standing = changes_among(entries, shown_among(foes))
    changed = changes_by(tree_by(standing), deed)
    odd_paths = paths_at_odds(entries, foes)
    for path, _ in changed:
        if is_in_line(path, odd_paths):
            raise Refused("unsettled", path)
    # Without them a folder that stands only because something is below it would be gone with it.
    folders = folders_above([path for path, _ in changed], fills_by(standing))
    return next_event(heard, machine, list(changed) + folders)


def is_let(heard, machine, deed):
    """Whether a deed is let."""
    try:
        event_for(heard, machine, deed)
    except Refused:
        return False
    return True


def paths_at_odds(entries, foes):
    """The paths of those of these live changes that quarrel, given the foes of each."""
    return [told[0] for key, _, told in entries if foes[key]]


def is_in_line(path, others):
    """Whether one of some other paths is this one, or stands above it or below it."""
    return any([path == other or begins_with(path, other) or begins_with(other, path) for other in others])


def folders_above(paths, fills):
    """The changes that say folder at those of some fills that stand above one of these paths."""
    return [(fill, FOLDER) for fill in fills if any([begins_with(path, fill) for path in paths])]


def next_event(heard, machine, changes):
    """The next event of a machine that has heard this."""
    return Event(machine, heard.counts[machine] + 1, heard.counts, changes)
