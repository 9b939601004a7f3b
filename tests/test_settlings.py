"""Settlings: lots, their trees, the shown lot, all ways to settle what quarrels."""

import itertools
import random
import time
import unittest

from meettrees.events import Event
from meettrees.heard import Heard
from meettrees.quarrels import live, parts, quarrels
from meettrees.settlings import fills, is_settling, many_settlings, settlings, shown, shown_lot, tree_of
from meettrees.trees import Tree
from histories import apart, greedy, live_told, lots_told, settlings_told, some_history, tree_told
from tools import ODD_VALUES, listed, raised

NONE, FOLDER, ONE, TWO = ("none",), ("folder",), ("file", "1"), ("file", "2")
A, X, Y = ("a",), ("a", "x"), ("a", "y")


def histories(seed, times=60):
    """Some histories by chance, with few live changes: what is heard, and these changes."""
    dice = random.Random(seed)
    while times:
        machines = dice.randint(1, 5)
        events = some_history(dice, machines, dice.randint(0, 10), meet=dice.choice((0.1, 0.4)))
        standing = live_told(events)
        if len(standing) <= 9:
            times -= 1
            yield Heard(machines, events), standing, dice


class LotTest(unittest.TestCase):
    def test_each_lot_makes_a_tree(self):
        for heard, standing, dice in histories(1):
            lots = set(lots_told(standing))
            for length in range(len(standing) + 1):
                for lot in itertools.combinations(standing, length):
                    passed = dice.choice((lot, listed(lot), list(lot)))
                    if lot not in lots:
                        self.assertEqual(raised(tree_of, heard, passed), ("BadLot", "lot"))
                        self.assertEqual(raised(fills, heard, passed), ("BadLot", "lot"))
                        continue
                    values, wanted = tree_told(standing, lot)
                    self.assertEqual(fills(heard, passed), tuple(wanted))
                    # To make the Tree of these pairs asks whether each hangs in a folder.
                    self.assertTrue(tree_of(heard, passed) == Tree(list(values.items())))
                    self.assertEqual(tree_of(heard, lot).at(("a", "x")), values.get(("a", "x"), NONE))

    def test_fills(self):
        deep = ("a",) * 6
        met = apart([(deep, ONE)], [(("a",) * 3, FOLDER)], [(("b", "c"), NONE)], [(("d", "e"), FOLDER)])
        lot = live(met)
        self.assertEqual(len(lot), 4)
        self.assertEqual(fills(met, lot), (("a",), ("a",) * 2, ("a",) * 4, ("a",) * 5, ("d",)))
        self.assertEqual(str(tree_of(met, lot)).splitlines()[-3:], ["/a/a/a/a/a/a file 1", "/d folder", "/d/e folder"])
        self.assertEqual(fills(heard=met, lot=[[2, 1, 0]]), ())
        self.assertTrue(tree_of(heard=met, lot=[]) == Tree())

    def test_no_lots(self):
        met = apart([(A, ONE), (("b",), ONE)], [(A, TWO), (("c",), ONE)])
        old = met.with_event(Event(0, 2, [1, 1], [(("b",), NONE)]))
        self.assertIsNone(raised(tree_of, met, [(0, 1, 1)]))
        for call in (tree_of, fills):
            self.assertEqual(raised(call, old, [(0, 1, 1)]), ("BadLot", "lot"))
            for lot in ODD_VALUES + (
                [(0, 1, 0), (1, 1, 0)], [(0, 1, 1), (0, 1, 0)], [(0, 1, 0), (0, 1, 0)], [(0, 1, 2)], [(0, 1)], [0, 1, 0],
                (0, 1, 0), [(0, 1, 0, 0)], [(0, 2, 0)], [(2, 1, 0)], [(False, 1, 0)], [(0, True, 0)], [(0, 1, 0.0)],
                ["010"], [None], {(0, 1, 0)}, {(0, 1, 0): 1}, [((0, 1), 0)], [(0, 1, 0), None], [(-1, 1, 0)], "010",
                [(0, 1, -1)], [(0, 10 ** 999, 0)],
            ):
                self.assertEqual(raised(call, met, lot), ("BadLot", "lot"), lot)


class ShownTest(unittest.TestCase):
    def test_the_shown_lot_is_the_first_settling(self):
        for heard, standing, _ in histories(2):
            lot = shown_lot(heard)
            self.assertEqual(lot, greedy(standing))
            self.assertEqual((lot,), settlings(heard, 1))
            self.assertTrue(is_settling(heard, lot))
            self.assertTrue(shown(heard) == tree_of(heard, lot))

    def test_nothing(self):
        for machines in (1, 8):
            heard = Heard(machines, [])
            self.assertEqual((shown_lot(heard), shown(heard).pairs), ((), ()))
            self.assertEqual((many_settlings(heard), settlings(heard, 200), fills(heard, ())), (1, ((),), ()))
            self.assertTrue(is_settling(heard, []))


class SettlingTest(unittest.TestCase):
    def test_by_trial_of_all_lots(self):
        most = 0
        for heard, standing, dice in histories(3, 80):
            wanted = tuple(settlings_told(standing))
            self.assertEqual(many_settlings(heard), len(wanted))
            for many in {1, 2, dice.randint(1, 200), max(1, len(wanted) - 1), len(wanted), 200}:
                self.assertEqual(settlings(heard, many), wanted[:many])
            self.assertIs(len(wanted) == 1, quarrels(heard) == ())
            for lot in lots_told(standing):
                self.assertIs(is_settling(heard, dice.choice((lot, listed(lot)))), lot in wanted)
            most = max(most, len(wanted))
        self.assertGreater(most, 5)

    def test_many_are_the_product_over_all_parts(self):
        met = apart([(A, ONE), (("b",), ONE), (("c",), ONE)], [(A, TWO), (("b",), TWO)], [(A, NONE), (("d",), ONE)],
                    [(("b",), TWO)])
        self.assertEqual((len(parts(met)), many_settlings(met), len(settlings(met, 200))), (2, 3 * 2, 6))
        self.assertTrue(all(set(live(met)) - set(sum(parts(met), ())) <= set(lot) for lot in settlings(met, 200)))

    def test_no_settlings(self):
        met = apart([(A, ONE), (("b",), ONE)], [(A, TWO)])
        self.assertTrue(is_settling(heard=met, lot=[(0, 1, 0), (0, 1, 1)]))
        for lot in ODD_VALUES + (
            (), [], [(0, 1, 0)], [(0, 1, 1)], [(1, 1, 0)], [(0, 1, 1), (0, 1, 0)], [(0, 1, 0), (0, 1, 1), (1, 1, 0)],
            [(0, 1, 0), (0, 1, 1), (0, 1, 1)], [(0, 1, 0), (0, 1, 1), (0, 1, 2)], [(0, 1, 0), (0, True, 1)], {(0, 1, 0)},
            [(0, 1, 0), (0, 1, 1), None],
        ):
            self.assertIs(is_settling(met, lot), False)

    def test_sixteen_in_a_part_and_seventeen(self):
        for below in (15, 16):
            met = apart([(A, NONE)], [(("a", chr(97 + at)), ONE) for at in range(below)])
            self.assertEqual(len(parts(met)[0]), below + 1)
            wanted = None if below == 15 else ("TooMany", "quarrels", 16)
            self.assertEqual(raised(many_settlings, met), wanted)
            self.assertEqual(raised(settlings, met, 5), wanted)
            self.assertEqual(len(shown_lot(met)), 1)
            self.assertTrue(is_settling(met, live(met)[1:]))
        met = apart([(A, NONE)], [(("a", chr(97 + at)), ONE) for at in range(15)])
        self.assertEqual((many_settlings(met), settlings(met, 9)), (2, (live(met)[:1], live(met)[1:])))
        wide = apart([((chr(97 + at),), ONE) for at in range(20)], [(("a",), TWO)])
        self.assertEqual((many_settlings(wide), len(settlings(wide, 1)[0])), (2, 20))

    def test_wrong_in_their_order(self):
        many = apart([(A, NONE)], [(("a", chr(97 + at)), ONE) for at in range(16)])
        for value in ODD_VALUES + ((), []):
            for call in (shown_lot, shown, many_settlings):
                self.assertEqual(raised(call, value), ("BadHeard", "heard"))
            for call in (tree_of, fills, is_settling, settlings):
                self.assertEqual(raised(call, value, None), ("BadHeard", "heard"))
        for most in (0, 201, -1, True, False, None, "5", 5.0, [5], 10 ** 999):
            self.assertEqual(raised(settlings, many, most), ("BadNumber", "most"))
        self.assertEqual(raised(settlings, many, 200), ("TooMany", "quarrels", 16))
        for most in (1, 200):
            self.assertEqual(len(settlings(heard=apart([(A, ONE)], [(A, TWO)]), most=most)), min(most, 2))

    def test_what_is_passed_stays(self):
        met = apart([(A, ONE)], [(X, TWO)])
        lot = [[1, 1, 0]]
        tree_of(met, lot), fills(met, lot), is_settling(met, lot)
        self.assertEqual(lot, [[1, 1, 0]])


class TimeTest(unittest.TestCase):
    def check_first_ones(self, heard):
        """Two hundred settlings ascend, and each is one."""
        found = settlings(heard, 200)
        self.assertEqual((len(found), found[0]), (200, shown_lot(heard)))
        self.assertTrue(all(one < other for one, other in zip(found, found[1:])))
        self.assertTrue(all(is_settling(heard, lot) for lot in (found[0], found[7], found[199])))
        return found

    def test_two_to_the_hundredth(self):
        begin = time.monotonic()
        paths = [("p" + str(at),) for at in range(100)]
        met = apart([(path, ONE) for path in paths], [(path, TWO) for path in paths])
        self.assertEqual(many_settlings(met), 2 ** 100)
        found = self.check_first_ones(met)
        # Of the first parts the lesser ids stand in all of the first ones; the last ids are told in turn.
        ids, others = live(met)[:100], live(met)[100:]
        self.assertEqual(found[1], tuple(sorted(ids[:99] + others[99:])))
        self.assertEqual(found[5], tuple(sorted(ids[:97] + ids[98:99] + (others[97], others[99]))))
        self.assertLess(time.monotonic() - begin, 10)

    def test_four_hundred_changes_in_parts_of_sixteen(self):
        begin = time.monotonic()
        tops = [("t" + str(at),) for at in range(25)]
        # In each part a file stands above five paths for each of which three machines have a text.
        lowers = [(top + (name,), None) for top in tops for name in "abcde"]
        met = apart([(top, ONE) for top in tops], *[[(path, ("file", text)) for path, _ in lowers] for text in "123"])
        self.assertEqual([len(part) for part in parts(met)], [16] * 25)
        self.assertEqual(many_settlings(met), (1 + 3 ** 5) ** 25)
        self.check_first_ones(met)
        turned = apart(*[[(path, ("file", text)) for path, _ in lowers] for text in "123"], [(top, ONE) for top in tops])
        self.assertEqual(many_settlings(turned), (1 + 3 ** 5) ** 25)
        self.check_first_ones(turned)
        self.assertLess(time.monotonic() - begin, 10)

    def test_two_hundred_parts(self):
        begin = time.monotonic()
        paths = [("p" + str(at), "q") for at in range(200)]
        met = apart([(path, ONE) for path in paths], [(path[:1], TWO) for path in paths])
        self.assertEqual(many_settlings(met), 2 ** 200)
        self.check_first_ones(met)
        self.assertEqual(len(shown(met).pairs), 400)
        self.assertLess(time.monotonic() - begin, 10)

    def test_one_great_part_is_shown(self):
        begin = time.monotonic()
        met = apart([(A, NONE)], [(("a", "x" + str(at)), ONE) for at in range(399)])
        self.assertEqual(shown_lot(met), ((0, 1, 0),))
        self.assertTrue(is_settling(met, live(met)[1:]))
        self.assertEqual(len(tree_of(met, live(met)[1:]).pairs), 400)
        self.assertEqual(raised(settlings, met, 1), ("TooMany", "quarrels", 16))
        self.assertLess(time.monotonic() - begin, 10)


if __name__ == "__main__":
    unittest.main()
