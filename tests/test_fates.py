"""Fates."""

import random
import time
import unittest

from meettrees.events import Event
from meettrees.fates import Disputed, Everywhere, Overruled, fate
from meettrees.heard import Heard, changes
from meettrees.papers import Denial, Paper
from meettrees.quarrels import live, overruler
from meettrees.settlings import is_settling
from histories import apart, live_told, overrulers, settlings_told, some_history
from tools import NO_IDS, ODD_VALUES, raised

A, X, Y = ("a",), ("a", "x"), ("a", "y")
NONE, FOLDER, ONE, TWO = ("none",), ("folder",), ("file", "1"), ("file", "2")


class FateTest(unittest.TestCase):
    def test_each_change_has_one_fate_by_trial_of_all_settlings(self):
        dice = random.Random(1)
        met = {"everywhere": 0, "disputed": 0, "overruled": 0}
        while min(met.values()) < 150:
            machines = dice.randint(1, 5)
            events = some_history(dice, machines, dice.randint(0, 10), meet=dice.choice((0.1, 0.4)))
            standing = live_told(events)
            if len(standing) > 8:
                continue
            heard, all_settlings = Heard(machines, events), settlings_told(standing)
            for key in changes(heard):
                told = fate(heard, dice.choice((key, list(key))))
                met[told.word] += 1
                having = [lot for lot in all_settlings if key in lot]
                if key not in standing:
                    self.assertTrue(told == Overruled(overrulers(events, key)[0]))
                    self.assertEqual((told.by, having), (overruler(heard, key), []))
                elif len(having) == len(all_settlings):
                    self.assertTrue(told == Everywhere(key))
                else:
                    self.assertEqual(told.word, "disputed")
                    self.assertIn(told.with_it, having)
                    self.assertIn(told.without, set(all_settlings) - set(having))

    def test_what_is_returned_again_is_equal(self):
        met = apart([(A, ONE)], [(A, TWO)], [(X, ONE)])
        for key in changes(met):
            self.assertTrue(fate(met, key) == fate(heard=met, key=list(key)))
            self.assertIsInstance(fate(met, list(key)).with_it, tuple)
        lone = fate(Heard(1, [Event(0, 1, [0], [(A, ONE)])]), [0, 1, 0])
        self.assertEqual((lone.key, lone.parts), ((0, 1, 0), ((0, 1, 0),)))

    def test_what_stands_behind_one_that_is_overruled(self):
        # The second event is overruled by the third one, and still overrules the first one.
        chain = Heard(1, [Event(0, number, [number - 1], [(A, ("file", str(number)))]) for number in (1, 2, 3)])
        self.assertEqual([fate(chain, key).parts for key in changes(chain)], [((0, 2, 0),), ((0, 3, 0),), ((0, 3, 0),)])
        self.assertEqual([fate(chain, key).word for key in changes(chain)], ["overruled", "overruled", "everywhere"])

    def test_one_path_and_one_value_in_all_settlings(self):
        twice = apart([(A, ONE)], [(A, ONE)])
        self.assertEqual([fate(twice, key).word for key in live(twice)], ["everywhere"] * 2)

    def test_parts_of_seventeen_have_fates(self):
        for below in (15, 16, 17):
            met = apart([(A, NONE)], [(("a", chr(97 + at)), ONE) for at in range(below)])
            for key in live(met):
                told = fate(met, key)
                self.assertEqual({told.with_it, told.without}, {live(met)[:1], live(met)[1:]})

    def test_wrong_in_their_order(self):
        met = apart([(A, ONE)], [(A, TWO)])
        for value in ODD_VALUES:
            self.assertEqual(raised(fate, value, None), ("BadHeard", "heard"))
        for key in NO_IDS:
            self.assertEqual(raised(fate, met, key), ("NoChange", key))
        key = [0, 1, 0]
        fate(met, key)
        self.assertEqual(key, [0, 1, 0])

    def test_in_a_short_time(self):
        begin = time.monotonic()
        met = apart([(A, NONE)], [(("a", "x" + str(at)), ONE) for at in range(399)])
        for key in live(met)[:3] + live(met)[-3:]:
            told = fate(met, key)
            self.assertTrue(key in told.with_it and key not in told.without)
        self.assertTrue(is_settling(met, told.with_it) and is_settling(met, told.without))
        self.assertLess(time.monotonic() - begin, 10)


class PaperTest(unittest.TestCase):
    def test_papers(self):
        for paper, word, parts in (
            (Everywhere([0, [1], 0]), "everywhere", ((0, (1,), 0),)),
            (Disputed(with_it=[[0, 1, 0]], without=()), "disputed", (((0, 1, 0),), ())),
            (Overruled(by=None), "overruled", (None,)),
        ):
            self.assertEqual((paper.word, paper.parts), (word, parts))
            self.assertIsInstance(paper, Paper)
            self.assertIs(bool(paper), word != "overruled")
            self.assertIs(isinstance(paper, Denial), word == "overruled")
        self.assertEqual((Everywhere(key=5).key, Overruled([1, 2]).by), (5, (1, 2)))
        self.assertEqual((Disputed([[1]], 2).with_it, Disputed(1, [2]).without), (((1,),), (2,)))
        self.assertTrue(Everywhere([1]) == Everywhere((1,)))
        for other in (Everywhere(2), Overruled((1,)), Paper("everywhere", (1,)), ((1,),), None, "everywhere"):
            self.assertFalse(Everywhere((1,)) == other)


if __name__ == "__main__":
    unittest.main()
