"""Whether papers of fates are right."""

import itertools
import random
import unittest

from meettrees.check_settlings import shows_fate
from meettrees.events import Event
from meettrees.fates import Disputed, Everywhere, Overruled, fate
from meettrees.heard import Heard, changes
from meettrees.images import Left
from meettrees.papers import Denial, Paper
from histories import apart, live_told, lots_told, overrulers, settlings_told, some_history
from tools import NO_IDS, ODD_VALUES, Liar, listed, raised

A = ("a",)
ONE, TWO = ("file", "1"), ("file", "2")


class ShowsTest(unittest.TestCase):
    def test_all_papers_by_trial(self):
        dice = random.Random(1)
        times = 25
        while times:
            machines = dice.randint(1, 4)
            events = some_history(dice, machines, dice.randint(1, 7), meet=dice.choice((0.1, 0.4)))
            standing = live_told(events)
            if len(standing) > 5:
                continue
            times -= 1
            heard, lots, all_settlings = Heard(machines, events), lots_told(standing), settlings_told(standing)
            for key in changes(heard):
                self.assertTrue(shows_fate(heard, key, fate(heard, key)))
                for other in changes(heard):
                    passed = dice.choice((other, list(other)))
                    everywhere = other == key and all(key in lot for lot in all_settlings)
                    self.assertIs(shows_fate(heard, list(key), Everywhere(passed)), everywhere)
                    self.assertIs(shows_fate(heard, key, Overruled(passed)), other in overrulers(events, key))
                for one, other in itertools.product(lots, lots):
                    are_settlings = one in all_settlings and other in all_settlings
                    wanted = are_settlings and key in one and key not in other
                    self.assertIs(shows_fate(heard, key, Disputed(one, listed(other))), wanted)

    def test_what_is_no_paper(self):
        met = apart([(A, ONE)], [(A, TWO)])
        lone = apart([(A, ONE)])
        right = ((0, 1, 0),)
        for value in ODD_VALUES + (
            Paper("everywhere", (0, 1, 0)), Paper("disputed", right, ((1, 1, 0),)), Denial("overruled", (0, 1, 0)),
            Left((0, 1, 0)), Liar(), Everywhere, ("everywhere", ((0, 1, 0),)),
        ):
            for heard in (met, lone):
                self.assertIs(shows_fate(heard, (0, 1, 0), value), False)

    def test_parts_of_any_kind(self):
        met = apart([(A, ONE)], [(A, TWO)])
        older = met.with_event(settled(met))
        lone = apart([(A, ONE)])
        self.assertTrue(shows_fate(lone, (0, 1, 0), Everywhere([0, 1, 0])))
        self.assertTrue(shows_fate(met, (0, 1, 0), Disputed([[0, 1, 0]], [(1, 1, 0)])))
        self.assertTrue(shows_fate(older, (0, 1, 0), Overruled([0, 2, 0])))
        for value in NO_IDS + ((False, 1, 0), Liar(), (0, 1, 1)):
            self.assertIs(shows_fate(lone, (0, 1, 0), Everywhere(value)), False, value)
            self.assertIs(shows_fate(older, (0, 1, 0), Overruled(value)), False, value)
            self.assertIs(shows_fate(met, (0, 1, 0), Disputed([value], [(1, 1, 0)])), False, value)
            self.assertIs(shows_fate(met, (0, 1, 0), Disputed([(0, 1, 0)], [value])), False, value)
            if value != [[0, 1, 0]]:
                self.assertIs(shows_fate(met, (0, 1, 0), Disputed(value, [(1, 1, 0)])), False, value)
            self.assertIs(shows_fate(met, (0, 1, 0), Disputed([(0, 1, 0)], value)), False, value)
        self.assertIs(shows_fate(older, (0, 1, 0), Overruled((False, 2, 0))), False)
        self.assertIs(shows_fate(older, (0, 1, 0), Overruled((0, 2, False))), False)
        self.assertIs(shows_fate(older, (0, 1, 0), Overruled((0, 2, 1))), False)

    def test_wrong_in_their_order(self):
        met = apart([(A, ONE)], [(A, TWO)])
        for value in ODD_VALUES:
            self.assertEqual(raised(shows_fate, value, None, None), ("BadHeard", "heard"))
        for key in NO_IDS:
            self.assertEqual(raised(shows_fate, met, key, None), ("NoChange", key))
        self.assertIs(shows_fate(heard=met, key=(0, 1, 0), value=None), False)


def settled(heard):
    """An event that overrules all changes at the path a of two machines."""
    return Event(0, heard.counts[0] + 1, heard.counts, [(A, ONE)])


if __name__ == "__main__":
    unittest.main()
