"""Deeds on the shown tree."""

import random
import time
import unittest

from meettrees.deeds import event_for, is_let, unsettled
from meettrees.errors import Refused
from meettrees.events import Event
from meettrees.fates import fate
from meettrees.heard import Heard, changes
from meettrees.plain import changes_by, plainly
from meettrees.quarrels import live, parts, quarrels
from meettrees.settlings import fills, shown, shown_lot
from histories import FOLDER, NONE, SMALL_PATHS, apart, greedy, live_told, quarrels_told, some_history, tree_told
from tools import NO_MACHINES, ODD_DEEDS, ODD_PATHS, ODD_VALUES, listed, raised

A, X, Y, B = ("a",), ("a", "x"), ("a", "y"), ("b",)
ONE, TWO = ("file", "1"), ("file", "2")
SPOTS = SMALL_PATHS + ((), ("b", "x"), ("a", "x", "y"), ("c",), ("a", "z"))


def some_deed(dice):
    """A plain deed by chance."""
    word, path = dice.choice(("write", "make", "drop", "move")), dice.choice(SPOTS)
    rest = {"write": (dice.choice("123"),), "move": (dice.choice(SPOTS),)}
    return (word, path) + rest.get(word, ())


def in_line(path, other):
    """Whether two paths are one, or one of them is above the other."""
    short = min(len(path), len(other))
    return path[:short] == other[:short]


def odd_paths(standing):
    """The paths of all live changes that quarrel."""
    return [standing[key][0] for pair in quarrels_told(standing) for key in pair]


def histories(seed, times):
    """Some histories by chance: what is heard, its events and its live changes."""
    dice = random.Random(seed)
    for _ in range(times):
        machines = dice.randint(1, 4)
        events = some_history(dice, machines, dice.randint(0, 12), meet=dice.choice((0.1, 0.3, 0.6)))
        yield Heard(machines, events), live_told(events), dice


class UnsettledTest(unittest.TestCase):
    def test_by_all_live_changes(self):
        found = [0, 0]
        for heard, standing, dice in histories(1, 60):
            for path in SPOTS + (("a", "x", "z", "a", "b", "c"),):
                if path:
                    wanted = any(in_line(path, other) for other in odd_paths(standing))
                    self.assertIs(unsettled(heard, dice.choice((path, list(path)))), wanted)
                    found[wanted] += 1
        self.assertTrue(min(found) > 50, found)

    def test_above_and_below(self):
        met = apart([(("a", "b", "c"), ONE), (B, ONE)], [(("a", "b", "c"), TWO), (B, ONE)])
        for path, wanted in (
            (A, True), (("a", "b"), True), (("a", "b", "c"), True), (("a", "b", "c", "d"), True), (("a", "c"), False),
            (("a", "b", "d"), False), (B, False), (("ab",), False), (("a", "b", "c2"), False), (["a"] * 6, False),
        ):
            self.assertIs(unsettled(heard=met, path=path), wanted)

    def test_wrong_in_their_order(self):
        met = apart([(A, ONE)], [(A, TWO)])
        for value in ODD_VALUES:
            self.assertEqual(raised(unsettled, value, None), ("BadHeard", "heard"))
        for path in ODD_PATHS + ((), []):
            self.assertEqual(raised(unsettled, met, path), ("BadPath", "path"))


class DeedTest(unittest.TestCase):
    def check_event(self, heard, standing, machine, deed):
        """What the document tells of the event of a deed that is let, and of what is heard behind it."""
        event = event_for(heard, machine, deed)
        tree, changed = shown(heard), changes_by(shown(heard), deed)
        _, filled = tree_told(standing, greedy(standing))
        folders = [(path, FOLDER) for path in filled if any(path == other[:len(path)] for other, _ in changed)]
        self.assertEqual(event.changes, tuple(sorted(list(changed) + folders)))
        self.assertLessEqual(len(event.changes), 12)
        self.assertEqual((event.id, event.past), ((machine, heard.counts[machine] + 1), heard.counts))
        later = heard.with_event(event)
        # The shown tree is that of the plain deed; what quarrelled still does, with the same ones, and is shown as before.
        self.assertTrue(shown(later) == plainly(tree, deed))
        self.assertEqual((quarrels(later), parts(later)), (quarrels(heard), parts(heard)))
        odd = {key for pair in quarrels(heard) for key in pair}
        self.assertEqual(odd & set(shown_lot(later)), odd & set(shown_lot(heard)))
        # What was overruled stays so; and the event quarrels with nothing.
        for key in changes(heard):
            self.assertFalse(fate(heard, key).word == "overruled" != fate(later, key).word)
        for index in range(len(event.changes)):
            self.assertEqual(fate(later, event.id + (index,)).word, "everywhere")

    def test_deeds_by_chance(self):
        found = {}
        for heard, standing, dice in histories(2, 400):
            machine = dice.randrange(heard.machines)
            for _ in range(6):
                deed = some_deed(dice)
                passed = dice.choice((deed, listed(deed)))
                plain = raised(changes_by, shown(heard), deed)
                odd = [] if plain else [
                    path for path, _ in changes_by(shown(heard), deed)
                    if any(in_line(path, other) for other in odd_paths(standing))
                ]
                refused = plain or (("Refused", "unsettled", odd[0]) if odd else None)
                self.assertEqual(raised(event_for, heard, machine, passed), refused)
                self.assertIs(is_let(heard, machine, passed), refused is None)
                if refused is None:
                    self.check_event(heard, standing, machine, passed)
                kind = refused[1] if refused else deed[0]
                found[kind] = found.get(kind, 0) + 1
        self.assertEqual(len(found), 11, found)
        self.assertGreater(min(found.values()), 10, found)

    def test_deeds_one_behind_another(self):
        # One machine alone does what plain deeds do.
        dice = random.Random(3)
        for _ in range(5):
            heard, tree = Heard(1, []), shown(Heard(1, []))
            for _ in range(150):
                deed = some_deed(dice)
                refused = raised(plainly, tree, deed)
                self.assertEqual(raised(event_for, heard, 0, deed), refused)
                if refused is None:
                    heard, tree = heard.with_event(event_for(heard, 0, deed)), plainly(tree, deed)
                self.assertTrue(shown(heard) == tree)
            self.assertGreater(len(heard.events), 10)

    def test_the_folders_above_are_told_if_they_are_fills(self):
        met = apart([(("a", "b", "c"), ONE), (("d", "e"), ONE), (("d",), FOLDER)])
        self.assertEqual(fills(met, live(met)), (("a",), ("a", "b")))
        dropped = event_for(met, 0, ("drop", ("a", "b", "c")))
        self.assertEqual(dropped.changes, ((("a",), FOLDER), (("a", "b"), FOLDER), (("a", "b", "c"), NONE)))
        written = event_for(met, 0, ("write", ("a", "x"), "5"))
        self.assertEqual(written.changes, ((("a",), FOLDER), (("a", "x"), ("file", "5"))))
        self.assertEqual(event_for(met, 0, ("drop", ("d", "e"))).changes, ((("d", "e"), NONE),))
        self.assertEqual(event_for(met, 0, ("make", ("c",))).changes, ((("c",), FOLDER),))

    def test_twelve_changes(self):
        deep, low = ("a",) * 6, ("b",) * 5
        met = apart([(deep, ONE), (low + ("c",), TWO)])
        moved = event_for(met, 0, ("move", deep, low + ("d",)))
        self.assertEqual(len(moved.changes), 12)
        self.assertEqual([value for _, value in moved.changes], [FOLDER] * 5 + [NONE] + [FOLDER] * 5 + [ONE])
        self.assertTrue(shown(met.with_event(moved)) == plainly(shown(met), ("move", deep, low + ("d",))))
        # A fill above both paths is told once.
        near = event_for(met, 0, ("move", deep, ("a",) * 5 + ("b",)))
        self.assertEqual(len(near.changes), 7)

    def test_the_first_path_that_is_unsettled(self):
        met = apart([(A, FOLDER), (X, ONE), (B, ONE)], [(A, FOLDER), (X, TWO), (B, TWO)], [(("c",), ONE)])
        for deed, path in (
            (("move", B, ("a", "x2")), B), (("move", ("c",), ("a", "y")), None), (("drop", X), X), (("write", X, "3"), X),
            (("move", ("c",), ("d",)), None), (("move", X, ("e",)), X), (("drop", ("c",)), None),
        ):
            self.assertEqual(raised(event_for, met, 2, deed), path and ("Refused", "unsettled", path))
        # What the plain deed would be refused for comes first, also where all is unsettled.
        self.assertEqual(raised(event_for, met, 0, ("make", X)), ("Refused", "there", X))
        self.assertEqual(raised(event_for, met, 0, ("drop", A)), ("Refused", "full", A))
        self.assertEqual(raised(event_for, met, 0, ("write", ["b", "c"], "")), ("Refused", "above", B))
        self.assertEqual(raised(event_for, met, 0, ("move", ("c",), [])), ("Refused", "root", ()))

    def test_the_second_path_of_a_move_that_is_unsettled(self):
        # /x/y is there nowhere, and two machines quarrel about it: one dropped what the other one wrote anew.
        start = [Event(0, 1, [0, 0], [(("x",), FOLDER), (("x", "y"), ONE), (B, ONE)])]
        apart_made = [Event(0, 2, [1, 0], [(("x", "y"), NONE)]), Event(1, 1, [1, 0], [(("x", "y"), TWO)])]
        met = Heard(2, start + apart_made)
        self.assertEqual(quarrels(met), (((0, 2, 0), (1, 1, 0)),))
        self.assertEqual(raised(event_for, met, 0, ["move", ["b"], ["x", "y"]]), ("Refused", "unsettled", ("x", "y")))
        with self.assertRaises(Refused) as caught:
            event_for(met, 0, ["move", ["b"], ["x", "y"]])
        self.assertIsInstance(caught.exception.path, tuple)

    def test_each_machine_has_its_own_number(self):
        met = apart([(A, ONE)], [(B, ONE)], [])
        for machine, number in ((0, 2), (1, 2), (2, 1)):
            event = event_for(heard=met, machine=machine, deed=("make", ("c",)))
            self.assertEqual((event.id, event.past), ((machine, number), (1, 1, 0)))

    def test_wrong_in_their_order(self):
        met = apart([(A, ONE)], [(A, TWO)])
        for call in (event_for, is_let):
            for value in ODD_VALUES:
                self.assertEqual(raised(call, value, None, None), ("BadHeard", "heard"))
            for machine in NO_MACHINES + (2, -1):
                self.assertEqual(raised(call, met, machine, None), ("NoMachine", machine))
            for deed in ODD_DEEDS:
                self.assertEqual(raised(call, met, 1, deed), ("BadDeed", "deed"))
        eight = Heard(8, [])
        self.assertEqual(event_for(eight, 7, ("make", A)).id, (7, 1))
        self.assertEqual(raised(event_for, eight, 8, ("make", A)), ("NoMachine", 8))
        self.assertEqual(raised(is_let, eight, 7, ("drop", A)), None)

    def test_what_is_passed_stays(self):
        met = apart([(A, FOLDER)])
        deed = ["write", ["a", "x"], "1"]
        event_for(met, 0, deed), is_let(met, 0, deed)
        self.assertEqual((deed, met.counts), (["write", ["a", "x"], "1"], (1,)))

    def test_in_a_short_time(self):
        begin = time.monotonic()
        met = apart([(A, NONE)], [(("a", "x" + str(at)), ONE) for at in range(398)], [(("b", "c"), ONE)])
        self.assertEqual(len(changes(met)), 400)
        for deed in (("make", ("b", "d")), ("drop", ("b", "c")), ("make", ("c",)), ("make", A)):
            self.assertIs(is_let(met, 0, deed), deed[1] != A)
        self.assertTrue(unsettled(met, A) and not unsettled(met, B))
        self.assertLess(time.monotonic() - begin, 10)


if __name__ == "__main__":
    unittest.main()
