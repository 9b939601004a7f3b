"""To settle."""

import itertools
import random
import time
import unittest

from meettrees.events import Event
from meettrees.fates import fate
from meettrees.heard import Heard, change, changes
from meettrees.quarrels import live, parts, quarrels
from meettrees.settle import settle_event
from meettrees.settlings import settlings, shown, shown_lot
from histories import FOLDER, NONE, apart, greedy, live_told, parts_told, quarrels_told, some_history, tree_told
from tools import NO_IDS, NO_MACHINES, ODD_VALUES, listed, raised

A, X, Y, B = ("a",), ("a", "x"), ("a", "y"), ("b",)
ONE, TWO = ("file", "1"), ("file", "2")


def quarrelling(seed, times, most=12):
    """Some histories by chance in which something quarrels: what is heard, and the live changes."""
    dice = random.Random(seed)
    while times:
        machines = dice.randint(2, 5)
        events = some_history(dice, machines, dice.randint(3, 10), meet=dice.choice((0.1, 0.3)))
        standing = live_told(events)
        if quarrels_told(standing) and len(standing) <= most:
            times -= 1
            yield Heard(machines, events), standing, dice


def is_full(lot, part, pairs):
    """Whether ids of a part do not quarrel, and no other one of it can be added."""
    if any(pair in pairs for pair in itertools.combinations(sorted(lot), 2)):
        return False
    return all(any(tuple(sorted((key, other))) in pairs for other in lot) for key in part if key not in lot)


def full_lots(part, pairs):
    """All lots of a part to which no other id of it can be added."""
    return [
        lot for length in range(1, len(part) + 1) for lot in itertools.combinations(part, length)
        if is_full(lot, part, pairs)
    ]


class SettleTest(unittest.TestCase):
    def check_changes(self, heard, standing, event, chosen, touched):
        """The changes of the event are just those that the document tells."""
        lot = sorted([key for key in greedy(standing) if key not in touched] + chosen)
        _, filled = tree_told(standing, lot)
        told = [standing[key] for key in chosen]
        folders = [
            (path, FOLDER) for path in filled
            if any(value != NONE and len(path) < len(low) and low[:len(path)] == path for low, value in told)
        ]
        self.assertEqual(event.changes, tuple(sorted(set(told + folders))))

    def check_behind(self, heard, event, chosen, touched):
        """Behind it the chosen parts quarrel no more, what was chosen is shown, and all else is as before."""
        later = heard.with_event(event)
        self.assertEqual(quarrels(later), tuple(pair for pair in quarrels(heard) if pair[0] not in touched))
        tree = shown(later)
        for key in chosen:
            path, value = change(heard, key)
            self.assertEqual(tree.at(path), value)
        rest = [key for key in live(heard) if key not in touched and key in live(later)]
        self.assertEqual(
            [key for key in rest if key in shown_lot(later)], [key for key in rest if key in shown_lot(heard)]
        )
        for key in touched:
            self.assertEqual(fate(later, key).word, "overruled")
        for key in changes(heard):
            if fate(heard, key).word == "overruled":
                self.assertEqual(fate(later, key).word, "overruled")
            if fate(heard, key).word == "disputed" and key not in touched:
                self.assertEqual(fate(later, key).word, "disputed")
        for index in range(len(event.changes)):
            self.assertEqual(fate(later, event.id + (index,)).word, "everywhere")

    def test_choices_by_chance(self):
        found = [0, 0]
        for heard, standing, dice in quarrelling(1, 150):
            pairs, all_parts = set(quarrels_told(standing)), parts_told(standing)
            for _ in range(3):
                some = dice.sample(all_parts, dice.randint(1, len(all_parts)))
                chosen = [key for part in some for key in dice.choice(full_lots(part, pairs))]
                dice.shuffle(chosen)
                touched = {key for part in some for key in part}
                machine = dice.randrange(heard.machines)
                event = settle_event(heard, machine, dice.choice((chosen, tuple(chosen), listed(chosen))))
                self.assertEqual((event.id, event.past), ((machine, heard.counts[machine] + 1), heard.counts))
                self.check_changes(heard, standing, event, chosen, touched)
                self.check_behind(heard, event, chosen, touched)
                found[len(some) < len(all_parts)] += 1
                found[0] += len(event.changes) > len(set(standing[key][0] for key in chosen))
        self.assertGreater(min(found), 20, found)

    def test_no_choices_by_trial_of_all_lots(self):
        for heard, standing, dice in quarrelling(2, 25, most=7):
            pairs, all_parts = set(quarrels_told(standing)), parts_told(standing)
            inside = {key for part in all_parts for key in part}
            for length in range(len(standing) + 1):
                for lot in itertools.combinations(standing, length):
                    touched = [part for part in all_parts if set(part) & set(lot)]
                    wanted = len(lot) > 0 and set(lot) <= inside and all(
                        is_full([key for key in lot if key in part], part, pairs) for part in touched
                    )
                    told = raised(settle_event, heard, 0, dice.sample(lot, length))
                    self.assertEqual(told, None if wanted else ("BadLot", "lot"))

    def test_all_parts_settled_leave_no_quarrel(self):
        for heard, _, dice in quarrelling(3, 40):
            inside = {key for part in parts(heard) for key in part}
            for lot in settlings(heard, 20):
                event = settle_event(heard, 0, [key for key in lot if key in inside])
                self.assertEqual(quarrels(heard.with_event(event)), ())

    def test_settled_unlike_they_quarrel_anew(self):
        met = apart([(A, ONE)], [(A, TWO)])
        one, other = settle_event(met, 0, [(0, 1, 0)]), settle_event(met, 1, [(1, 1, 0)])
        both = met.with_event(one).joined(met.with_event(other))
        self.assertEqual(quarrels(both), (((0, 2, 0), (1, 2, 0)),))
        last = both.with_event(settle_event(both, 1, [(1, 2, 0)]))
        self.assertEqual((quarrels(last), shown(last).at(A)), ((), TWO))

    def test_each_path_once(self):
        met = apart([(A, ONE)], [(A, TWO)], [(A, TWO)], [(A, NONE)])
        self.assertEqual(settle_event(met, 3, [(2, 1, 0), (1, 1, 0)]).changes, ((A, TWO),))
        self.assertEqual(raised(settle_event, met, 3, [(2, 1, 0)]), ("BadLot", "lot"))

    def test_fills_are_of_the_lot_behind_the_choice(self):
        # /a/b is a folder by its own change, outside all parts; /a is a fill by what is chosen, and by what stays.
        met = apart([(("a", "b"), FOLDER), (("a", "b", "c"), ONE)], [(("a", "b", "c"), TWO)])
        event = settle_event(met, 0, [(1, 1, 0)])
        self.assertEqual(event.changes, ((("a",), FOLDER), (("a", "b", "c"), TWO)))
        # What is chosen says none: no folder is told above it.
        met = apart([(("a", "b"), NONE), (("a", "c"), ONE)], [(("a", "b"), TWO)])
        self.assertEqual(settle_event(met, 0, [(0, 1, 0)]).changes, ((("a", "b"), NONE),))
        self.assertEqual(settle_event(met, 0, [(1, 1, 0)]).changes, ((A, FOLDER), (("a", "b"), TWO)))

    def test_fourteen_changes_and_fifteen(self):
        deep = ("a",) * 5
        for many in (13, 14):
            lowers = [(("z", chr(97 + at)), ONE) for at in range(many)]
            met = apart([(("z",), NONE)], lowers)
            event, lot = None, live(met)[1:]
            if many == 13:
                event = settle_event(met, 0, lot)
                self.assertEqual((len(event.changes), event.changes[0]), (14, (("z",), FOLDER)))
                self.assertEqual(quarrels(met.with_event(event)), ())
            else:
                self.assertEqual(raised(settle_event, met, 0, lot), ("TooMany", "changes", 14))
            self.assertEqual(len(settle_event(met, 0, live(met)[:1]).changes), 1)
        # Five of them are folders above the chosen ones.
        for names in ("ab", "abc"):
            paths = [deep + (name,) for name in names] + [(name + "x",) for name in "cdefghi"]
            met = apart([(path, ONE) for path in paths], [(path, TWO) for path in paths])
            wanted = None if len(names) == 2 else ("TooMany", "changes", 14)
            self.assertEqual(raised(settle_event, met, 0, live(met)[:len(paths)]), wanted)

    def test_parts_of_more_than_sixteen(self):
        met = apart([(A, NONE)], [(("a", "x" + str(at)), ONE) for at in range(17)])
        self.assertEqual(raised(settlings, met, 1), ("TooMany", "quarrels", 16))
        self.assertEqual(settle_event(met, 1, [(0, 1, 0)]).changes, ((A, NONE),))
        self.assertEqual(raised(settle_event, met, 1, live(met)[1:]), ("TooMany", "changes", 14))

    def test_nothing_whatever_the_lot(self):
        calm = apart([(A, ONE)], [(A, ONE)])
        for lot in ODD_VALUES + ((), [], [(0, 1, 0)], [(0, 1, 0), (1, 1, 0)]):
            self.assertEqual(raised(settle_event, calm, 0, lot), ("Nothing",))
            self.assertEqual(raised(settle_event, Heard(1, []), 0, lot), ("Nothing",))

    def test_wrong_in_their_order(self):
        met = apart([(A, ONE), (B, ONE)], [(A, TWO)])
        calm = apart([(A, ONE)])
        for value in ODD_VALUES:
            self.assertEqual(raised(settle_event, value, None, None), ("BadHeard", "heard"))
        for machine in NO_MACHINES + (2, -1):
            self.assertEqual(raised(settle_event, met, machine, None), ("NoMachine", machine))
            self.assertEqual(raised(settle_event, calm, machine, None), ("NoMachine", machine))
        for lot in ODD_VALUES + (
            (), [], (0, 1, 0), [(0, 1, 1)], [(0, 1, 0), (0, 1, 1)], [(0, 1, 0), (0, 1, 0)], [(0, 1, 0), [0, 1, 0]],
            [(0, 1, 0), (1, 1, 0)], {(0, 1, 0)}, {(0, 1, 0): 1}, "010", [(0, 1, 0), None],
        ):
            self.assertEqual(raised(settle_event, met, 0, lot), ("BadLot", "lot"), lot)
        for key in NO_IDS:
            self.assertEqual(raised(settle_event, met, 0, [key]), ("BadLot", "lot"), key)
            self.assertEqual(raised(settle_event, met, 0, [(0, 1, 0), key]), ("BadLot", "lot"), key)
        old = met.with_event(Event(0, 2, [1, 1], [(A, NONE)])).joined(met.with_event(Event(1, 2, [1, 1], [(A, ONE)])))
        self.assertEqual(raised(settle_event, old, 0, [(0, 1, 0)]), ("BadLot", "lot"))
        self.assertEqual(settle_event(heard=old, machine=1, lot=[[0, 2, 0]]).id, (1, 3))

    def test_what_is_passed_stays(self):
        met = apart([(A, ONE)], [(X, TWO)])
        lot = [[1, 1, 0]]
        self.assertEqual(settle_event(met, 0, lot).changes, ((A, FOLDER), (X, TWO)))
        self.assertEqual(lot, [[1, 1, 0]])

    def test_in_a_short_time(self):
        begin = time.monotonic()
        paths = [("p" + str(at),) for at in range(200)]
        met = apart([(path, ONE) for path in paths], [(path, TWO) for path in paths])
        self.assertEqual(len(settle_event(met, 0, live(met)[7:21]).changes), 14)
        self.assertEqual(raised(settle_event, met, 0, live(met)[:200]), ("TooMany", "changes", 14))
        self.assertLess(time.monotonic() - begin, 10)


if __name__ == "__main__":
    unittest.main()
