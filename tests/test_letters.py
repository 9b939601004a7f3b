"""Letters."""

import itertools
import random
import time
import unittest

from meettrees.events import Event
from meettrees.heard import Heard
from meettrees.letters import Letter, answer, hello, meeting, taken
from histories import are_closed, in_order, some_history
from tools import NO_MACHINES, ODD_VALUES, raised

A = ("a",)
SOME = [(A, ("folder",))]


def alone(machine, many, machines, begin=0, heard=None):
    """Events that a machine made one behind another, having heard of the others so many."""
    past = list(heard or [0] * machines)
    return [
        Event(machine, number, past[:machine] + [number - 1] + past[machine + 1:], [(A, ("file", str(number)))])
        for number in range(begin + 1, begin + many + 1)
    ]


def parted(dice, machines, many):
    """One history of which two machines have heard parts: all of its events, and both parts."""
    events = in_order(some_history(dice, machines, many, meet=0.4))
    heards = []
    for _ in range(2):
        counts = [dice.choice((0, dice.randint(0, many), many)) for _ in range(machines)]
        heard = []
        for event in events:
            if event.number <= counts[event.machine] and are_closed(machines, heard + [event]):
                heard.append(event)
        heards.append(Heard(machines, heard))
    return events, heards[0], heards[1]


def hears(machines, events, told):
    """Which of the told events are heard by one who has heard these: each that is the next one then."""
    known, news = list(events), []
    for event in told:
        if event.id not in [one.id for one in known] and are_closed(machines, known + [event]):
            known.append(event)
            news.append(event)
    return news


class LetterTest(unittest.TestCase):
    def test_attributes(self):
        one, other = Event(0, 1, [0, 0, 0], SOME), Event(2, 1, [0, 0, 0], SOME)
        letter = Letter(2, 0, [1, 0, 5], [other, one])
        self.assertEqual((letter.sender, letter.to, letter.counts), (2, 0, (1, 0, 5)))
        self.assertEqual((letter.events[0] == other, letter.events[1] == one, len(letter.events)), (True, True, 2))
        self.assertIsInstance(letter.events, tuple)
        self.assertTrue(letter == Letter(sender=2, to=0, counts=(1, 0, 5), events=(other, Event(0, 1, (0, 0, 0), SOME))))
        for unlike in (
            Letter(1, 0, [1, 0, 5], [other, one]), Letter(2, 1, [1, 0, 5], [other, one]), Letter(2, 0, [1, 0, 4], [other, one]),
            Letter(2, 0, [1, 0, 5], [one, other]), Letter(2, 0, [1, 0, 5], []), None, (2, 0, (1, 0, 5), (other, one)),
        ):
            self.assertFalse(letter == unlike)

    def test_edges(self):
        for machines in range(2, 9):
            for sender, to in itertools.permutations(range(machines), 2):
                letter = Letter(sender, to, [60000] * machines, [])
                self.assertEqual((letter.counts, letter.events), ((60000,) * machines, ()))
        many = alone(0, 21, 2)
        self.assertEqual(len(Letter(0, 1, [20, 0], many[:20]).events), 20)
        self.assertEqual(raised(Letter, 0, 1, [21, 0], many), ("BadLetter", "events"))
        self.assertEqual(len(Letter(0, 1, [0, 0], [many[0]] * 20).events), 20)

    def test_what_is_passed_is_copied(self):
        counts, events = [1, 0], alone(0, 1, 2)
        letter = Letter(0, 1, counts, events)
        counts.append(5), events.clear()
        self.assertEqual((letter.counts, len(letter.events)), ((1, 0), 1))

    def test_wrong_in_their_order(self):
        for sender in ODD_VALUES + (8, 0.0, (0,)):
            self.assertEqual(raised(Letter, sender, None, None, None), ("BadLetter", "sender"))
        for to in ODD_VALUES + (8, 0.0, 1.0, (0,), 3):
            self.assertEqual(raised(Letter, 3, to, None, None), ("BadLetter", "to"))
        for counts in ODD_VALUES + (
            (), [0, 0, 0], [0] * 9, [0, 0, 0, 60001], [0, 0, 0, -1], [0, 0, 0, True], [0, 0, 0, 0.0], ["0"] * 4, range(4),
            {0: 0, 1: 0, 2: 0, 3: 0}, "0000", None,
        ):
            self.assertEqual(raised(Letter, 3, 1, counts, None), ("BadLetter", "counts"), counts)
            self.assertEqual(raised(Letter, 1, 3, counts, None), ("BadLetter", "counts"), counts)
        self.assertEqual(raised(Letter, 0, 1, [0], None), ("BadLetter", "counts"))
        right, wide = Event(0, 1, [0, 0], SOME), Event(0, 1, [0, 0, 0], SOME)
        for events in ODD_VALUES + ([right, None], [wide], [right, wide], right, {right.id: right}, [right.id]):
            self.assertEqual(raised(Letter, 0, 1, [0, 0], events), ("BadLetter", "events"), events)
        self.assertEqual(raised(Letter, 7, 0, [0] * 7, []), ("BadLetter", "counts"))


class HelloTest(unittest.TestCase):
    def test_hello(self):
        heard = Heard(3, alone(1, 2, 3))
        self.assertTrue(hello(heard, 2, 0) == Letter(2, 0, (0, 2, 0), []))
        self.assertTrue(hello(heard=heard, sender=0, to=2) == Letter(0, 2, (0, 2, 0), ()))

    def test_wrong_in_their_order(self):
        heard = Heard(2, [])
        for value in ODD_VALUES:
            self.assertEqual(raised(hello, value, None, None), ("BadHeard", "heard"))
        for value in NO_MACHINES + (2, -1):
            self.assertEqual(raised(hello, heard, value, None), ("NoMachine", value))
            self.assertEqual(raised(hello, heard, 1, value), ("NoMachine", value))
        for sender in (0, 1):
            self.assertEqual(raised(hello, heard, sender, sender), ("Misfit", "to"))
        self.assertEqual(raised(hello, Heard(1, []), 0, 0), ("Misfit", "to"))
        self.assertEqual(raised(hello, Heard(8, []), 8, 8), ("NoMachine", 8))


class TakenTest(unittest.TestCase):
    def test_each_that_is_the_next_one(self):
        dice = random.Random(1)
        found = [0, 0]
        for _ in range(120):
            machines = dice.randint(2, 5)
            events, mine, _ = parted(dice, machines, dice.randint(1, 14))
            told = [dice.choice(events) for _ in range(dice.randint(0, 20))]
            # One with the id of another one is let lie if that one is heard, and kept out if its past is not.
            told += [Event(told[0].machine, told[0].number, told[0].past, SOME)] if told[:1] and len(told) < 20 else []
            if dice.random() < 0.5:
                told = in_order(told)
            to = dice.randrange(1, machines)
            heard, news = taken(mine, Letter(0, to, [0] * machines, told))
            wanted = hears(machines, mine.events, told)
            self.assertIsInstance(news, tuple)
            self.assertEqual([id(event) for event in news], [id(event) for event in wanted])
            self.assertTrue(heard == Heard(machines, list(mine.events) + wanted))
            found = [found[0] + len(wanted), found[1] + len(told) - len(wanted)]
        self.assertGreater(min(found), 100, found)

    def test_the_order_of_the_letter(self):
        events = alone(0, 20, 2)
        whole, news = taken(Heard(2, []), Letter(0, 1, [0, 0], events))
        self.assertEqual((whole.counts, len(news)), ((20, 0), 20))
        self.assertEqual(taken(Heard(2, []), Letter(0, 1, [20, 0], events[::-1]))[0].counts, (1, 0))
        # Whose heard it is, is not asked; what is let lie changes nothing.
        self.assertEqual(taken(heard=Heard(2, events), letter=Letter(1, 0, [0, 0], events))[1], ())

    def test_what_it_has_otherwise_is_let_lie(self):
        mine = Heard(2, [Event(0, 1, [0, 0], SOME)])
        heard, news = taken(mine, Letter(1, 0, [2, 0], alone(0, 2, 2)))
        self.assertEqual((heard.counts, [event.id for event in news]), ((2, 0), [(0, 2)]))
        self.assertEqual(heard.event((0, 1)).changes, ((A, ("folder",)),))

    def test_wrong_in_their_order(self):
        heard, letter, wide = Heard(2, []), Letter(0, 1, [0, 0], []), Letter(0, 1, [0, 0, 0], [])
        for value in ODD_VALUES:
            self.assertEqual(raised(taken, value, None), ("BadHeard", "heard"))
            self.assertEqual(raised(taken, heard, value), ("BadLetter", "letter"))
            self.assertEqual(raised(answer, value, None, None), ("BadHeard", "heard"))
            self.assertEqual(raised(answer, heard, value, None), ("BadLetter", "letter"))
        for news in ODD_VALUES + (1, 0.0):
            self.assertEqual(raised(answer, heard, letter, news), ("BadNumber", "news"))
            self.assertEqual(raised(answer, heard, wide, news), ("BadNumber", "news"))
        self.assertEqual(raised(taken, heard, wide), ("Misfit", "machines"))
        self.assertEqual(raised(answer, heard, wide, 0), ("Misfit", "machines"))
        self.assertEqual(raised(taken, Heard(1, []), letter), ("Misfit", "machines"))
        self.assertEqual(raised(answer, Heard(8, []), letter, 0), ("Misfit", "machines"))
        full = Letter(0, 1, [20, 0], alone(0, 20, 2))
        self.assertEqual(raised(answer, heard, full, 21), ("BadNumber", "news"))
        self.assertIsNone(raised(answer, heard, full, 20))


class AnswerTest(unittest.TestCase):
    def test_by_chance(self):
        dice = random.Random(2)
        found = {}
        for _ in range(300):
            machines = dice.randint(2, 4)
            _, mine, its = parted(dice, machines, dice.randint(0, 12))
            counts = dice.choice((its.counts, mine.counts, [dice.randint(0, 4) for _ in range(machines)]))
            told = list(its.events[:dice.randint(0, 3)])
            news = dice.randint(0, len(told))
            sender, to = dice.sample(range(machines), 2)
            reply = answer(mine, Letter(sender, to, counts, told), news)
            lacks = any(its > mine for its, mine in zip(counts, mine.counts))
            gives = [event for event in mine.events if event.number > counts[event.machine]]
            kind = "none" if not lacks and not gives else "useless" if told and not news else "some"
            found[kind] = found.get(kind, 0) + 1
            if kind == "some":
                self.assertTrue(reply == Letter(to, sender, mine.counts, gives[:20]))
            else:
                self.assertIsNone(reply)
        self.assertEqual((len(found), min(found.values()) > 20), (3, True), found)

    def test_twenty_of_twenty_one(self):
        for many in (19, 20, 21, 45):
            mine = Heard(2, alone(0, many, 2))
            reply = answer(mine, hello(Heard(2, []), 1, 0), 0)
            self.assertEqual([event.number for event in reply.events], list(range(1, min(many, 20) + 1)))
            self.assertEqual((reply.sender, reply.to, reply.counts), (0, 1, (many, 0)))

    def test_no_events_if_it_lacks_something_alone(self):
        reply = answer(heard=Heard(2, []), letter=hello(Heard(2, alone(0, 3, 2)), 0, 1), news=0)
        self.assertTrue(reply == Letter(1, 0, (0, 0), []))
        self.assertIsNone(answer(Heard(2, []), hello(Heard(2, []), 0, 1), 0))


class MeetingTest(unittest.TestCase):
    def check_meeting(self, mine, its, sender, to):
        """As many letters as told, each event brought once, and none that was not lacked; both hear all."""
        letters, heard = meeting(mine, its, sender, to)
        self.assertTrue(heard == mine.joined(its))
        self.assertEqual(heard.counts, tuple(map(max, zip(mine.counts, its.counts))))
        self.assertTrue(letters[0] == hello(mine, sender, to))
        lacked_by = {sender: len(its.lacking(mine.counts)), to: len(mine.lacking(its.counts))}
        many = max(1, 2 * -(-lacked_by[sender] // 20), 1 + 2 * -(-lacked_by[to] // 20) if lacked_by[to] else 1)
        self.assertEqual(len(letters), many)
        heards = {sender: mine, to: its}
        for letter in letters:
            self.assertEqual(letter.counts, heards[letter.sender].counts)
            heards[letter.to], news = taken(heards[letter.to], letter)
            self.assertEqual(len(news), len(letter.events))
        self.assertEqual(heards[sender].counts, heards[to].counts)
        for place, mine_first in ((sender, mine), (to, its)):
            brought = [event.id for letter in letters for event in letter.events if letter.to == place]
            self.assertEqual((len(brought), len(set(brought))), (lacked_by[place],) * 2)
            self.assertFalse([key for key in brought if mine_first.has(key)])
        self.assertEqual([letter.sender for letter in letters], [(sender, to)[at % 2] for at in range(len(letters))])

    def test_by_chance(self):
        dice = random.Random(3)
        for _ in range(60):
            machines = dice.randint(2, 5)
            _, mine, its = parted(dice, machines, dice.randint(0, 16))
            sender, to = dice.sample(range(machines), 2)
            self.check_meeting(mine, its, sender, to)

    def test_how_many_letters(self):
        for lacked, other in itertools.product((0, 1, 19, 20, 21, 40, 41, 61), repeat=2):
            self.check_meeting(Heard(2, alone(0, other, 2)), Heard(2, alone(1, lacked, 2)), 0, 1)
            self.check_meeting(Heard(2, alone(0, other, 2)), Heard(2, alone(1, lacked, 2)), 1, 0)

    def test_eight_machines(self):
        mine = Heard(8, [event for machine in range(4) for event in alone(machine, 9, 8)])
        its = Heard(8, [event for machine in range(3, 8) for event in alone(machine, 9, 8)])
        self.check_meeting(mine, its, 7, 0)

    def test_four_hundred_events_in_a_short_time(self):
        begin = time.monotonic()
        mine, its = Heard(2, alone(0, 200, 2)), Heard(2, alone(1, 200, 2))
        letters, heard = meeting(mine, its, 0, 1)
        self.assertEqual((len(letters), heard.counts), (21, (200, 200)))
        self.assertLess(time.monotonic() - begin, 10)

    def test_wrong_in_their_order(self):
        mine, its = Heard(2, []), Heard(3, [])
        for value in ODD_VALUES:
            self.assertEqual(raised(meeting, value, None, None, None), ("BadHeard", "mine"))
            self.assertEqual(raised(meeting, mine, value, None, None), ("BadHeard", "its"))
        for value in NO_MACHINES + (2, -1):
            self.assertEqual(raised(meeting, mine, its, value, None), ("NoMachine", value))
            self.assertEqual(raised(meeting, mine, its, 0, value), ("NoMachine", value))
        self.assertEqual(raised(meeting, mine, its, 1, 1), ("Misfit", "to"))
        self.assertEqual(raised(meeting, mine, its, 0, 1), ("Misfit", "machines"))
        one, other = Event(0, 1, [0, 0], SOME), Event(0, 1, [0, 0], [(A, ("file", ""))])
        self.assertEqual(raised(meeting, Heard(2, [one]), Heard(2, [other]), 0, 1), ("Misfit", "unlike"))
        self.assertEqual(len(meeting(mine=mine, its=Heard(2, [one]), sender=1, to=0)[0]), 2)


class MailTest(unittest.TestCase):
    def test_letters_lost_doubled_and_late(self):
        dice = random.Random(4)
        for _ in range(40):
            machines = dice.randint(2, 4)
            events, _, _ = parted(dice, machines, dice.randint(1, 30))
            heards = [Heard(machines, hears(machines, [], [event for event in events if event.machine == at or at == 0][:25]))
                      for at in range(machines)]
            bag = []
            for _ in range(60):
                sender, to = dice.sample(range(machines), 2)
                bag.append(hello(heards[sender], sender, to))
                bag += [dice.choice(bag)] if dice.random() < 0.3 else []
                letter = bag.pop(dice.randrange(len(bag)))
                if dice.random() < 0.2:
                    continue
                before = heards[letter.to]
                heards[letter.to], news = taken(before, letter)
                self.assertTrue(are_closed(machines, heards[letter.to].events))
                self.assertTrue(set(event.id for event in before.events) <= set(e.id for e in heards[letter.to].events))
                reply = answer(heards[letter.to], letter, len(news))
                bag += [reply] if reply is not None else []
            # If nothing is done but taking, it ends, in any order.
            taken_letters = 0
            while bag:
                letter = bag.pop(dice.randrange(len(bag)))
                heards[letter.to], news = taken(heards[letter.to], letter)
                reply = answer(heards[letter.to], letter, len(news))
                bag += [reply] if reply is not None else []
                taken_letters += 1
                self.assertLess(taken_letters, 5000)

    def test_an_answer_is_heard_whole(self):
        dice = random.Random(5)
        for _ in range(60):
            machines = dice.randint(2, 4)
            _, mine, its = parted(dice, machines, dice.randint(0, 14))
            reply = answer(its, hello(mine, 0, 1), 0)
            if reply is not None:
                # Also if it comes later, when more was heard by other letters.
                later = mine.joined(Heard(machines, its.events[:dice.randint(0, len(its.events))]))
                heard, news = taken(later, reply)
                self.assertEqual(len(news), len([event for event in reply.events if not later.has(event.id)]))
                self.assertTrue(all(heard.has(event.id) for event in reply.events))


if __name__ == "__main__":
    unittest.main()
