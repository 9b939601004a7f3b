"""What a desk answers when it is asked."""

from meettrees.deeds import is_let, unsettled
from meettrees.fates import fate
from meettrees.heard import change
from meettrees.histories import lacked
from meettrees.pictures import NO_TEXT, change_text, disk_picture, ids_text, words_text
from meettrees.quarrels import live, parts, quarrels
from meettrees.settlings import many_settlings, settlings, shown, shown_lot


def asked(world, word, told):
    """The answer to an ask with this word, and what is told behind it."""
    if word == "running":
        return words_text([machine.number for machine in world.machines if machine.is_up])
    if word == "agreed":
        return yes_or_no(world.are_agreed())
    if word == "bag":
        return barred_text([words_text([letter.sender, letter.to, len(letter.events)]) for letter in world.bag])
    machine = world.machines[told[0]]
    if word == "disk":
        return disk_picture(machine.disk)
    if word == "done":
        return barred_text([words_text(key) for key in machine.done])
    if word == "lacks":
        return barred_text([words_text(key) for key in lacked(world, machine.number)])
    if word in ("tree", "at", "names"):
        return asked_of_tree(shown(machine.heard), word, told)
    if word in ("change", "fate", "unsettled", "lets"):
        return asked_of_one(machine, word, told)
    return asked_of_all(machine.heard, word, told)


def asked_of_tree(tree, word, told):
    """The answer to an ask for the tree that is shown."""
    if word == "tree":
        return str(tree) or NO_TEXT
    if word == "at":
        return " ".join(tree.at(told[1]))
    return words_text(tree.names(told[1]))


def asked_of_one(machine, word, told):
    """The answer to an ask for one change, one path or one deed."""
    heard = machine.heard
    if word == "unsettled":
        return yes_or_no(unsettled(heard, told[1]))
    if word == "lets":
        return yes_or_no(is_let(heard, machine.number, told[1]))
    key = tuple(told[1:])
    if word == "change":
        return change_text(change(heard, key))
    paper = fate(heard, key)
    # The one that fate tells is the first one that overrules it.
    return paper.word if paper else words_text((paper.word, *paper.by))


def asked_of_all(heard, word, told):
    """The answer to an ask for all live changes, and all of their quarrels and settlings."""
    if word == "counts":
        return words_text(heard.counts)
    if word == "live":
        return ids_text(live(heard))
    if word == "shown":
        return ids_text(shown_lot(heard))
    if word == "quarrels":
        return barred_text([ids_text(pair) for pair in quarrels(heard)])
    if word == "parts":
        return barred_text([ids_text(part) for part in parts(heard)])
    if word == "settlings":
        return barred_text([ids_text(lot) for lot in settlings(heard, told[1])])
    return str(many_settlings(heard))


def barred_text(texts):
    """Texts with bars between; a sign of its own for none."""
    return " / ".join(texts) or NO_TEXT


def yes_or_no(value):
    """The word for True or False."""
    return "yes" if value else "no"
