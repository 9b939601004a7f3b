"""Settlings: the ways in which live changes that quarrel can be settled, and the tree that is shown."""

from meettrees.checks import is_list, is_numbers, is_within
from meettrees.errors import BadLot, BadNumber, TooMany
from meettrees.heard import check_heard
from meettrees.papers import fixed
from meettrees.paths import FOLDER, NONE, uppers_of
from meettrees.quarrels import foes_among, live_entries, parts_among
from meettrees.trees import tree_with

MOST_IN_PART = 16
MOST_SETTLINGS = 200


def tree_of(heard, lot):
    """The tree that a lot makes."""
    return tree_by(changes_in(heard, lot))


def fills(heard, lot):
    """The fills of a lot, ascending."""
    return tuple(fills_by(changes_in(heard, lot)))


def shown_lot(heard):
    """The shown lot: each live change, ascending, that quarrels with none taken ahead of it."""
    check_heard(heard)
    return shown_among(foes_among(live_entries(heard)))


def shown(heard):
    """The tree that is shown."""
    check_heard(heard)
    entries = live_entries(heard)
    return tree_by(changes_among(entries, shown_among(foes_among(entries))))


def is_settling(heard, lot):
    """Whether any value is a settling."""
    check_heard(heard)
    foes = foes_among(live_entries(heard))
    if not is_lot_among(foes, lot):
        return False
    taken = {key: True for key in fixed(lot)}
    return all([key in taken or is_barred(key, taken, foes) for key in foes])


def many_settlings(heard):
    """How many settlings there are."""
    check_heard(heard)
    many = 1
    for lots in choices_among(foes_among(live_entries(heard))):
        many = many * len(lots)
    return many


def settlings(heard, most):
    """The first settlings, as they ascend, so many of them, or all."""
    check_heard(heard)
    if not is_within(most, 1, MOST_SETTLINGS):
        raise BadNumber("most")
    foes = foes_among(live_entries(heard))
    return first_settlings(foes, choices_among(foes), most)


def changes_in(heard, lot):
    """The changes of a lot."""
    check_heard(heard)
    entries = live_entries(heard)
    if not is_lot_among(foes_among(entries), lot):
        raise BadLot("lot")
    return changes_among(entries, fixed(lot))


def changes_among(entries, keys):
    """The changes with these ids, in their order, of live changes."""
    told = {key: change for key, _, change in entries}
    return [told[key] for key in keys]


def is_lot_among(foes, value):
    """Whether any value is a lot of live ids, given those with which each of them quarrels."""
    if not is_list(value) or not all([is_numbers(key, 3, None) for key in value]):
        return False
    lot = fixed(value)
    if not all([one < other for one, other in zip(lot, lot[1:])]) or not all([key in foes for key in lot]):
        return False
    taken = {key: True for key in lot}
    return not any([is_barred(key, taken, foes) for key in lot])


def is_barred(key, taken, foes):
    """Whether a live change quarrels with one of those that are taken."""
    return any([foe in taken for foe in foes[key]])


def fills_by(changes):
    """The fills of a lot of these changes, ascending."""
    told = {path: True for path, _ in changes}
    uppers = {upper: True for path, value in changes if value != NONE for upper in uppers_of(path)}
    return sorted([upper for upper in uppers if upper not in told])


def tree_by(changes):
    """The tree that a lot of these changes makes."""
    values = {path: value for path, value in changes if value != NONE}
    for path in fills_by(changes):
        values[path] = FOLDER
    return tree_with(values)


def shown_among(foes):
    """The shown lot of live ids, given those with which each of them quarrels."""
    taken = {}
    for key in foes:
        if not is_barred(key, taken, foes):
            taken[key] = True
    return tuple(taken)


def choices_among(foes):
    """For each part all of its lots to which no further id of this part can be put."""
    found = parts_among(foes)
    if any([len(part) > MOST_IN_PART for part in found]):
        raise TooMany("quarrels", MOST_IN_PART)
    return [full_lots(part, foes) for part in found]


def full_lots(part, foes):
    """All lots of a part to which no further id of it can be put.

    They are found for its first ids alone, for one more, and so on. A lot is a number here with a bit for
    each id; masks has the bits of those with which each id quarrels.
    """
    bits = {key: 1 << at for at, key in enumerate(part)}
    masks = [sum([bits[foe] for foe in foes[key]]) for key in part]
    lots = [0]
    for at, mask in enumerate(masks):
        grown = {}
        for lot in lots:
            # Either the next id can be put, or it is barred by the lot; then it may stand in place of its foes.
            with_it = (lot & ~mask) | (1 << at)
            if lot & mask:
                grown[lot] = True
            if not lot & mask or is_full(with_it, masks[:at]):
                grown[with_it] = True
        lots = list(grown)
    return [tuple([key for key in part if made & bits[key]]) for made in lots]


def is_full(lot, masks):
    """Whether each id that has a mask is in the lot or is barred by it."""
    return all([lot & mask or lot & (1 << at) for at, mask in enumerate(masks)])


def first_settlings(foes, choices, most):
    """The first settlings, so many of them, or all.

    The live ids are gone through, ascending, each taken before it is left. A part can still be completed as
    long as one of its lots agrees with what was taken and left; so no way leads nowhere.
    """
    ids = list(foes)
    place = {key: index for index, lots in enumerate(choices) for lot in lots for key in lot}
    found = []
    open_ways = [(0, (), tuple(choices))]
    while open_ways and len(found) < most:
        begin, taken, agreeing = open_ways.pop()
        for at in range(begin, len(ids)):
            key = ids[at]
            if key not in place:
                taken = taken + (key,)
                continue
            index = place[key]
            having = [lot for lot in agreeing[index] if key in lot]
            lacking = [lot for lot in agreeing[index] if key not in lot]
            if having and lacking:
                open_ways.append((at + 1, taken, put_at(agreeing, index, lacking)))
            if having:
                taken = taken + (key,)
            agreeing = put_at(agreeing, index, having or lacking)
        found.append(taken)
    return tuple(found)


def put_at(row, index, part):
    """The row with this part at an index."""
    return row[:index] + (part,) + row[index + 1:]
