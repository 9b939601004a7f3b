"""Desks."""

import random
import time
import unittest

from meettrees.deed_texts import deed_text
from meettrees.deeds import event_for, is_let, unsettled
from meettrees.desk import Desk
from meettrees.errors import MeetError
from meettrees.fates import fate
from meettrees.heard import changes, change
from meettrees.histories import lacked
from meettrees.paths import path_text
from meettrees.pictures import disk_picture
from meettrees.quarrels import live, overruler, parts, quarrels
from meettrees.settlings import many_settlings, settlings, shown, shown_lot
from meettrees.worlds import World
from plain_world import PATHS, PlainWorld, some_deed, some_step
from tools import ODD_VALUES, raised

BIG, GREATER = "1" + "0" * 59, "1" + "0" * 60
ASKS_OF_ONE = (
    "disk", "counts", "done", "lacks", "tree", "live", "shown", "quarrels", "parts", "many",
)
ASKS = ("running", "agreed", "bag")


def words(values):
    """Values with single blanks between."""
    return " ".join(str(value) for value in values) or "-"


def flat(ids):
    """All integers of some ids."""
    return words([part for key in ids for part in key])


def bars(texts):
    """Texts with bars between."""
    return " / ".join(texts) or "-"


def wanted_of_world(world):
    """What is to be answered of a world as a whole, by the line."""
    return {
        "running": words([machine.number for machine in world.machines if machine.is_up]),
        "agreed": "yes" if world.are_agreed() else "no",
        "bag": bars([f"{letter.sender} {letter.to} {len(letter.events)}" for letter in world.bag]),
    }


def wanted_of_machine(world, at, dice):
    """What is to be answered of a machine that is up, by the line."""
    heard, tree = world.machines[at].heard, shown(world.machines[at].heard)
    wanted = {
        "disk": disk_picture(world.machines[at].disk), "counts": words(heard.counts),
        "done": bars([words(key) for key in world.machines[at].done]), "tree": str(tree) or "-",
        "lacks": bars([words(key) for key in lacked(world, at)]), "live": flat(live(heard)), "shown": flat(shown_lot(heard)),
        "quarrels": bars([flat(pair) for pair in quarrels(heard)]), "parts": bars([flat(part) for part in parts(heard)]),
        "many": str(many_settlings(heard)),
    }
    wanted = {f"{word} {at}": answer for word, answer in wanted.items()}
    most = dice.choice((1, 2, 3, 200))
    wanted[f"settlings {at} {most}"] = bars([flat(lot) for lot in settlings(heard, most)])
    for path in PATHS:
        wanted[f"at {at} {path_text(path)}"] = " ".join(tree.at(path))
        wanted[f"unsettled {at} {path_text(path)}"] = "yes" if unsettled(heard, path) else "no"
        if tree.at(path) == ("folder",):
            wanted[f"names {at} {path_text(path)}"] = words(tree.names(path))
    wanted[f"names {at} /"], wanted[f"at {at} /"] = words(tree.names(())), "folder"
    deed = some_deed(dice)
    wanted[f"lets {at} {deed_text(deed)}"] = "yes" if is_let(heard, at, deed) else "no"
    for key in dice.sample(changes(heard), min(4, len(changes(heard)))):
        path, value = change(heard, key)
        wanted[f"change {at} {words(key)}"] = path_text(path) + " " + " ".join(value)
        word = fate(heard, key).word
        wanted[f"fate {at} {words(key)}"] = word + (" " + words(overruler(heard, key)) if word == "overruled" else "")
    return wanted


def line_of(step, world, dice):
    """The line of a step, and the step that it tells."""
    word, *rest = step
    if word in ("do", "begin"):
        return f"{word} {rest[0]} {deed_text(rest[1])}", step
    if word in ("settle", "begin_settling"):
        heard = world.machines[rest[0]].heard
        found = settlings(heard, 200)
        index = dice.randrange(len(found))
        inside = {key for part in parts(heard) for key in part}
        return f"{word} {rest[0]} {index}", (word, rest[0], [key for key in found[index] if key in inside])
    if word == "cut":
        return " ".join([word, str(rest[0]), *map(str, rest[1])]), step
    return " ".join([word, *map(str, rest)]), step


def some_run(seed, times, machines=3, blocks=128):
    """A desk that was told deeds by chance, and a world in which the same steps were done, each time a line was told."""
    dice = random.Random(seed)
    desk, world, plain = Desk(machines, blocks), World(machines, blocks), PlainWorld(machines)
    while times and len(desk) < 200:
        step = some_step(dice, plain, [len(machine.disk.held) for machine in world.machines])
        if step is None:
            continue
        line, step = line_of(step, world, dice)
        try:
            wanted = world.step(step)
        except MeetError:
            # Some disk has no room left: the desk says so, too, and nothing is done.
            assert raised(desk.told, line) == raised(world.step, step)
            return
        plain.step(step)
        if step[0] == "up":
            plain.heards[step[1]], plain.begun[step[1]] = world.machines[step[1]].heard, None
        times -= 1
        yield dice, desk, world, line, "-" if wanted is None else words(wanted)


def answers(desk, machines):
    """What a desk answers to the asks that tell all of its state."""
    lines = list(ASKS) + [f"{ask} {at}" for ask in ASKS_OF_ONE for at in range(machines)]
    return [raised(desk.told, line) or desk.told(line) for line in lines]


class RunTest(unittest.TestCase):
    def test_runs_by_chance(self):
        asked = {}
        for seed in range(8):
            lines = []
            for dice, desk, world, line, wanted in some_run(seed, 60, 1 + seed % 4):
                self.assertEqual(desk.told(line), wanted)
                lines.append(line)
                self.assertEqual((desk.log, len(desk)), (tuple(lines), len(lines)))
                for ask, answer in wanted_of_world(world).items():
                    self.assertEqual(desk.told(ask), answer)
                for at, machine in enumerate(world.machines):
                    if machine.is_up:
                        for ask, answer in wanted_of_machine(world, at, dice).items():
                            self.assertEqual(desk.told(ask), answer)
                            word = ask.split(" ")[0]
                            asked[word] = asked.get(word, 0) + (answer not in ("-", "no", "none"))
                        continue
                    self.assertEqual(desk.told(f"disk {at}"), disk_picture(machine.disk))
                    self.assertEqual(desk.told(f"done {at}"), bars([words(key) for key in machine.done]))
                self.assertEqual(len(desk), len(lines))
        self.assertEqual((len(asked), min(asked.values()) > 20), (17, True), asked)

    def test_a_desk_that_is_told_the_log_of_another_one(self):
        for seed in range(20, 26):
            for dice, desk, world, line, _ in some_run(seed, 50):
                desk.told(line)
            other = Desk(3, 128)
            for line in desk.log:
                other.told(line)
            self.assertTrue(other == desk)
            self.assertEqual(answers(other, 3), answers(desk, 3))

    def test_undo_and_twin(self):
        for seed in range(30, 36):
            states = []
            for _, desk, _, line, _ in some_run(seed, 40):
                states.append((desk.log, answers(desk, 3)))
                if len(states) % 7 == 0:
                    # A twin that goes on changes nothing here, and what is told here changes no twin.
                    twin = desk.twin()
                    raised(twin.told, "do 0 make /t"), raised(twin.told, "cut 1"), raised(twin.told, "gather")
                    twin.undo(), twin.undo(), twin.undo()
                    self.assertEqual((desk.log, answers(desk, 3)), states[-1])
                desk.told(line)
            twin, told = desk.twin(), (desk.log, answers(desk, 3))
            self.assertTrue(twin == desk)
            for log, before in reversed(states):
                line = desk.log[-1]
                self.assertEqual(desk.undo(), line)
                self.assertEqual((desk.log, answers(desk, 3)), (log, before))
                self.assertFalse(twin == desk)
            self.assertEqual((desk.undo(), len(desk), desk.log), (None, 0, ()))
            self.assertEqual((twin.log, answers(twin, 3)), told)
            # What was taken back may be told again.
            for line in twin.log:
                desk.told(line)
            self.assertEqual((desk == twin, answers(desk, 3)), (True, told[1]))

    def test_undo_behind_what_was_begun(self):
        desk = Desk(1, 32)
        for line in ("begin 0 make /a", "finish 0", "begin_pressing 0", "turn 0", "finish 0", "begin 0 make /b", "cut 0 0", "up 0"):
            desk.told(line)
        self.assertEqual(desk.told("counts 0"), "2")
        for line, picture in (("up 0", "################"), ("cut 0 0", ""), ("begin 0 make /b", ""), ("finish 0", "")):
            self.assertEqual(desk.undo(), line)
        self.assertEqual((desk.told("finish 0"), desk.told("do 0 make /c"), desk.told("tree 0")),
                         ("-", "0 2", "/a folder\n/c folder"))


class DeskTest(unittest.TestCase):
    def test_attributes_and_equality(self):
        desk = Desk(machines=2, blocks=32)
        self.assertEqual((desk.machines, desk.blocks, desk.log, len(desk), desk.undo()), (2, 32, (), 0, None))
        self.assertTrue(desk == Desk(2, 32))
        for other in (Desk(1, 32), Desk(2, 33), None, 2, ()):
            self.assertFalse(desk == other)
        other = desk.twin()
        other.told("do 1 make /a")
        self.assertFalse(desk == other)
        desk.told("do 1 make /a")
        self.assertTrue(desk == other)
        # Equal is what was told, not what it left: nothing is changed by this line.
        desk.told("meet 0 1"), other.told("meet 0 1"), other.told("meet 0 1")
        self.assertFalse(desk == other)

    def test_wrong_numbers(self):
        for value in ODD_VALUES + (0, 9):
            self.assertEqual(raised(Desk, value, None), ("BadNumber", "machines"))
        for value in ODD_VALUES + (7, 513):
            self.assertEqual(raised(Desk, 8, value), ("BadNumber", "blocks"))
        for machines, blocks in ((1, 8), (8, 512)):
            self.assertEqual(Desk(machines, blocks).told("running"), words(range(machines)))

    def test_two_hundred_lines(self):
        begin = time.monotonic()
        desk = Desk(8, 512)
        for number in range(100):
            desk.told(f"do {number % 8} write /p{number % 9} {number}")
        for number in range(99):
            desk.told(f"press {number % 8}")
        self.assertEqual((desk.told("gather"), len(desk)), ("-", 200))
        for line in ("gather", "do 0 make /a", "up 0", "finish 0", "take 0", "settle 0 199"):
            self.assertEqual(raised(desk.told, line), ("TooMany", "lines", 200))
        self.assertEqual(raised(desk.told, "gather "), ("BadText", 0, 1))
        self.assertEqual((desk.told("agreed"), desk.told("counts 7")), ("yes", "13 13 13 13 12 12 12 12"))
        other = desk.twin()
        self.assertEqual((desk.undo(), len(desk), desk.told("agreed"), other.told("agreed")), ("gather", 199, "no", "yes"))
        self.assertEqual((desk.told("meet 1 2"), len(desk)), ("-", 200))
        while desk.undo() is not None:
            pass
        self.assertEqual((desk == Desk(8, 512), len(other)), (True, 200))
        self.assertLess(time.monotonic() - begin, 60)


class TextTest(unittest.TestCase):
    def check_bad(self, desk, line, item):
        """A line cannot stand, and changes nothing."""
        before = (desk.log, answers(desk, desk.machines))
        self.assertEqual(raised(desk.told, line), ("BadText", 0, item), line)
        self.assertEqual((desk.log, answers(desk, desk.machines)), before)

    def test_what_is_no_line(self):
        desk = Desk(2, 32)
        for value in ODD_VALUES:
            self.check_bad(desk, value, 0)
        for line in ("", " ", "x", "Do 0 make /a", "do,0", " do 0 make /a", "told", "web 0", "undo", "history", "run 0",
                     "gather\n", "\ngather", "do\t0 make /a", "make /a", "0", "-", "len", "twin", ["gather"], b"gather"):
            self.check_bad(desk, line, 0)

    def test_numbers_of_machines(self):
        desk = Desk(2, 32)
        words_of_one = (
            "settle begin_settling press begin_pressing turn finish up cut send meet do begin disk counts done lacks tree at "
            "names live shown quarrels parts settlings many change fate unsettled lets"
        ).split()
        for word in words_of_one:
            self.check_bad(desk, word, 1)
            for item in ("", "2", "00", "01", "-1", "+0", "0.", "x", "1_", "\u0661", "1\n", BIG, GREATER, "0x0", "True"):
                self.check_bad(desk, word + " " + item, 1)
                self.check_bad(desk, word + " " + item + " 0 0 0", 1)
        for word in ("send", "meet"):
            self.check_bad(desk, word + " 0", 2)
            for item in ("", "2", "01", "x", BIG):
                self.check_bad(desk, word + " 1 " + item, 2)
            self.check_bad(desk, word + " 0 1 ", 3)

    def test_too_much(self):
        desk = Desk(2, 32)
        for line in ("press 0", "begin_pressing 0", "turn 0", "finish 0", "up 0", "gather", "running", "agreed", "bag", "disk 0",
                     "counts 1", "done 0", "lacks 0", "tree 0", "at 0 /", "names 0 /", "live 0", "shown 0", "quarrels 0",
                     "parts 0", "settlings 0 5", "many 0", "change 0 0 1 0", "fate 0 0 1 0", "unsettled 0 /a", "send 0 1",
                     "meet 0 1", "take 0", "begin_taking 0", "lose 0", "double 0", "settle 0 0", "begin_settling 0 0"):
            many = len(line.split(" "))
            for behind in (" ", " 0", " x", "  "):
                self.check_bad(desk, line + behind, many)

    def test_integers(self):
        desk = Desk(2, 32)
        for word in ("take", "begin_taking", "lose", "double"):
            self.check_bad(desk, word, 1)
            for item in ("", "00", "-1", "x", "1 ", "\u00b2", GREATER):
                self.check_bad(desk, word + " " + item, 2 if item == "1 " else 1)
            for item in ("0", "7", BIG, "9" * 60):
                self.assertEqual(raised(desk.told, word + " " + item), ("BadNumber", "at"))
        for word in ("settle", "begin_settling"):
            self.check_bad(desk, word + " 0", 2)
            for item in ("", "200", "-1", "x", "00", BIG, GREATER):
                self.check_bad(desk, word + " 0 " + item, 2)
            for item in ("1", "199"):
                self.assertEqual(raised(desk.told, word + " 0 " + item), ("BadNumber", "index"))
            self.assertEqual(raised(desk.told, word + " 0 0"), ("Nothing",))
        for item in ("", "0", "201", "-1", "x", "01", BIG, GREATER):
            self.check_bad(desk, "settlings 0 " + item, 2)
        self.check_bad(desk, "settlings 0", 2)
        self.assertEqual((desk.told("settlings 0 1"), desk.told("settlings 1 200")), ("-", "-"))
        for word in ("change", "fate"):
            for many in range(3):
                self.check_bad(desk, word + " 0" + " 1" * many, 2 + many)
                for item in ("", "x", "01", "-1", GREATER):
                    self.check_bad(desk, word + " 0" + " 1" * many + " " + item + " 0" * (2 - many), 2 + many)
            self.check_bad(desk, word + " 0 0 1 0 ", 5)
            self.assertEqual(raised(desk.told, f"{word} 0 {BIG} 1 0"), ("NoChange", (int(BIG), 1, 0)))
            self.assertEqual(raised(desk.told, f"{word} 1 0 0 {BIG}"), ("NoChange", (0, 0, int(BIG))))

    def test_lots(self):
        desk = Desk(1, 32)
        desk.told("begin 0 write /a " + "x" * 30)
        self.assertEqual(desk.told("disk 0")[:8], "..++++..")
        for lot, item in (("0 0", 3), ("1 0", 3), ("0 2 1", 4), ("0 1 2 2", 5), ("x", 2), ("", 2), ("0 ", 3), ("00", 2),
                          (GREATER, 2), ("0 -1", 3), ("0 1 x 1", 4), ("-1", 2)):
            self.check_bad(desk, "cut 0 " + lot, item)
        for lot in ("4", "0 4", BIG):
            self.assertEqual(raised(desk.told, "cut 0 " + lot), ("BadLot", "landed"))
        for lot, picture in (("", "........"), (" 0", "..#....."), (" 1 3", "...#.#.."), (" 0 1 2 3", "..####..")):
            self.assertEqual((desk.told("cut 0" + lot), desk.told("disk 0")[:8], desk.told("running")), ("-", picture, "-"))
            desk.undo()

    def test_paths_and_deeds(self):
        desk = Desk(2, 32)
        for word in ("at", "names", "unsettled"):
            self.check_bad(desk, word + " 0", 2)
            for item in ("", "a", "/A", "//", "/a/", "/a" * 7, "/" + "a" * 13, "/a\n"):
                self.check_bad(desk, word + " 0 " + item, 2)
        for word in ("do", "begin", "lets"):
            for deed, item in (
                ("", 2), ("x", 2), ("Make /a", 2), ("make", 3), ("make ", 3), ("make a", 3), ("make /a/", 3), ("make /a ", 4),
                ("make /a /b", 4), ("write /a", 4), ("write /a a\n", 4), ("write /a a b%", 4), ("write /a " + "x" * 61, 4),
                ("move /a", 4), ("move /a b", 4), ("move /a /b ", 4), ("move  /a /b", 3), ("drop /a /b", 4), (" make /a", 2),
                ("write / " + "x" * 61, 4), ("drop /" + "a" * 13, 3),
            ):
                self.check_bad(desk, word + " 0 " + deed, item)
            self.check_bad(desk, word + " 0", 2)
        # The deed goes up to the line's end, with all its blanks.
        self.assertEqual((desk.told("do 0 write /a  1  2 "), desk.told("at 0 /a"), desk.told("tree 0")),
                         ("0 1", "file  1  2 ", "/a file  1  2 "))
        self.assertEqual((desk.told("do 0 write /b "), desk.told("at 0 /b"), desk.told("change 0 0 2 0")),
                         ("0 2", "file ", "/b file "))

    def test_the_root(self):
        desk = Desk(1, 32)
        self.assertEqual((desk.told("at 0 /"), desk.told("names 0 /"), desk.told("lets 0 drop /")), ("folder", "-", "no"))
        self.assertEqual(raised(desk.told, "unsettled 0 /"), ("BadPath", "path"))
        self.assertEqual(raised(desk.told, "do 0 make /"), ("Refused", "root", ()))


class ErrorTest(unittest.TestCase):
    def test_errors_of_what_stands_behind(self):
        desk = Desk(2, 32)
        for line in ("do 0 write /a 1", "do 1 write /a 2", "meet 0 1", "send 0 1", "begin 1 make /b"):
            desk.told(line)
        before = (desk.log, answers(desk, 2))
        for line, error in (
            ("do 0 drop /b", ("Refused", "none", ("b",))), ("do 0 drop /a", ("Refused", "unsettled", ("a",))),
            ("do 1 drop /b", ("Misfit", "begun")), ("settle 1 0", ("Misfit", "begun")), ("settle 1 2", ("BadNumber", "index")),
            ("begin_settling 0 2", ("BadNumber", "index")), ("press 1", ("Misfit", "begun")), ("turn 0", ("Misfit", "turn")),
            ("finish 0", ("Nothing",)), ("up 1", ("On",)), ("cut 1 5", ("BadLot", "landed")), ("send 0 0", ("Misfit", "to")),
            ("meet 1 1", ("Misfit", "other")), ("meet 0 1", ("Misfit", "begun")), ("gather", ("Misfit", "begun")),
            ("take 0", ("Misfit", "begun")), ("begin_taking 0", ("Misfit", "begun")), ("take 1", ("BadNumber", "at")),
            ("lose 1", ("BadNumber", "at")), ("double 1", ("BadNumber", "at")), ("names 0 /a", ("Refused", "file", ("a",))),
            ("names 0 /b", ("Refused", "none", ("b",))), ("names 0 /a/b", ("Refused", "none", ("a", "b"))),
            ("change 0 0 1 1", ("NoChange", (0, 1, 1))), ("fate 0 1 2 0", ("NoChange", (1, 2, 0))),
        ):
            self.assertEqual(raised(desk.told, line), error, line)
        self.assertEqual((desk.log, answers(desk, 2)), before)

    def test_machines_that_are_off(self):
        desk = Desk(2, 32)
        for line in ("do 0 make /a", "begin 0 make /b", "cut 0"):
            desk.told(line)
        log = desk.log
        for ask in ("counts 0", "lacks 0", "tree 0", "at 0 /a", "names 0 /", "live 0", "shown 0", "quarrels 0", "parts 0",
                    "settlings 0 1", "many 0", "change 0 0 1 0", "change 0 9 9 9", "fate 0 0 1 0", "unsettled 0 /a",
                    "unsettled 0 /", "lets 0 make /c", "do 0 make /c", "begin 0 make /c", "settle 0 0", "begin_settling 0 199",
                    "press 0", "turn 0", "finish 0", "cut 0", "send 0 1", "send 0 0", "meet 0 1", "meet 1 0"):
            self.assertEqual(raised(desk.told, ask), ("Off",), ask)
        self.assertEqual((desk.told("done 0"), desk.told("disk 0"), desk.told("running")), ("0 1", "..#" + "." * 29, "1"))
        self.assertEqual((desk.told("agreed"), desk.told("lacks 1"), desk.log), ("yes", "-", log))
        desk.told("cut 1")
        self.assertEqual((desk.told("running"), desk.told("agreed"), desk.told("gather"), desk.told("bag")), ("-", "yes", "-", "-"))

    def test_too_many_quarrels(self):
        desk = Desk(2, 512)
        desk.told("do 0 make /a"), desk.told("meet 0 1"), desk.told("do 0 drop /a")
        for at in range(16):
            desk.told(f"do 1 write /a/x{at} 1")
        desk.told("meet 1 0")
        for line in ("settle 0 0", "begin_settling 1 199", "many 0", "settlings 1 200"):
            self.assertEqual(raised(desk.told, line), ("TooMany", "quarrels", 16))
        self.assertEqual((desk.told("tree 0"), desk.told("unsettled 0 /a"), len(desk.told("parts 0").split())), ("-", "yes", 51))

    def test_full_and_too_many_changes(self):
        desk = Desk(2, 8)
        for name in "abc":
            desk.told("do 0 make /" + name)
        before = (desk.log, answers(desk, 2))
        self.assertEqual((raised(desk.told, "do 0 make /d"), raised(desk.told, "begin 0 make /d")), (("Full",), ("Full",)))
        self.assertEqual((desk.log, answers(desk, 2)), before)
        self.assertEqual((desk.told("press 0"), raised(desk.told, "do 0 make /d")), ("-", ("Full",)))
        # Fifteen paths about which both machines quarrel, all settled at once: one more than there may be.
        desk = Desk(2, 512)
        for at in range(15):
            desk.told(f"do 0 make /x{at}"), desk.told(f"do 1 write /x{at} 1")
        desk.told("meet 0 1")
        self.assertEqual(desk.told("many 0"), str(2 ** 15))
        self.assertEqual(raised(desk.told, "settle 0 0"), ("TooMany", "changes", 14))


if __name__ == "__main__":
    unittest.main()
