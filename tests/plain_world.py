"""A world told again in the plainest way: what each machine has heard, and the bag; there is always room."""

from meettrees.deeds import event_for
from meettrees.errors import Refused
from meettrees.heard import Heard
from meettrees.letters import answer, hello, meeting, taken
from meettrees.quarrels import parts
from meettrees.settle import settle_event
from meettrees.settlings import settlings

COMMON = (
    "do", "do", "do", "do", "begin", "begin", "settle", "begin_settling", "finish", "send", "take", "begin_taking", "meet",
)
PATHS = (("a",), ("a", "x"), ("a", "y"), ("a", "x", "z"), ("b",), ("b", "x"))


class PlainWorld:
    """What each machine has heard, begun and told done; what one hears when it comes up is asked of the true world."""

    def __init__(self, machines):
        self.heards = [Heard(machines, []) for _ in range(machines)]
        self.begun = [None] * machines
        self.is_up = [True] * machines
        self.done = [[] for _ in range(machines)]
        self.bag = []

    def ups(self):
        """The machines that are up."""
        return [at for at, is_up in enumerate(self.is_up) if is_up]

    def step(self, step):
        """Does a step that is known to be right; returns what it returns."""
        word, *parts = step
        return getattr(self, word)(*parts)

    def begin(self, machine, deed):
        self.begun[machine] = [event_for(self.heards[machine], machine, deed)]

    def begin_settling(self, machine, lot):
        self.begun[machine] = [settle_event(self.heards[machine], machine, lot)]

    def begin_pressing(self, machine):
        self.begun[machine] = "copied"

    def turn(self, machine):
        self.begun[machine] = "turned"

    def finish(self, machine):
        begun, self.begun[machine] = self.begun[machine], None
        if isinstance(begun, str):
            return None
        if isinstance(begun, list):
            self.heards[machine] = self.heards[machine].with_event(begun[0])
            self.done[machine].append(begun[0].id)
            return begun[0].id
        self.heards[machine], news = taken(self.heards[machine], begun)
        reply = answer(self.heards[machine], begun, len(news))
        self.bag += [] if reply is None else [reply]
        return None

    def do(self, machine, deed):
        self.begin(machine, deed)
        return self.finish(machine)

    def settle(self, machine, lot):
        self.begin_settling(machine, lot)
        return self.finish(machine)

    def press(self, machine):
        pass

    def cut(self, machine, landed):
        self.is_up[machine] = False

    def up(self, machine):
        self.is_up[machine] = True

    def may_come_up(self, machine):
        """All that the machine may have heard behind a cut and a coming up: of what was begun the first ones."""
        heard, begun = self.heards[machine], self.begun[machine]
        found = [heard]
        if begun is None or isinstance(begun, str):
            return found
        for event in begun if isinstance(begun, list) else taken(heard, begun)[1]:
            found.append(found[-1].with_event(event))
        return found

    def send(self, machine, to):
        self.bag.append(hello(self.heards[machine], machine, to))

    def take(self, at):
        letter = self.bag.pop(at)
        if self.is_up[letter.to]:
            self.begun[letter.to] = letter
            self.finish(letter.to)

    def begin_taking(self, at):
        letter = self.bag.pop(at)
        if self.is_up[letter.to]:
            self.begun[letter.to] = letter

    def lose(self, at):
        self.bag.pop(at)

    def double(self, at):
        self.bag.append(self.bag[at])

    def meet(self, one, other):
        _, heard = meeting(self.heards[one], self.heards[other], one, other)
        self.heards[one] = self.heards[other] = heard

    def gather(self):
        least, *others = self.ups() or [None]
        for other in others + others:
            self.meet(least, other)


def some_step(dice, plain, held):
    """A step by chance that can be done, or None; held tells how many writes each disk holds."""
    ups = plain.ups()
    free = [at for at in ups if plain.begun[at] is None]
    busy = [at for at in ups if plain.begun[at] is not None]
    offs = [at for at in range(len(plain.heards)) if at not in ups]
    letters = [at for at, letter in enumerate(plain.bag) if letter.to not in busy]
    kind = dice.choice(COMMON * 3 + ("press", "begin_pressing", "turn", "cut", "up", "up", "lose", "double", "gather"))
    if kind in ("do", "begin") and free:
        machine, deed = dice.choice(free), some_deed(dice)
        try:
            event_for(plain.heards[machine], machine, deed)
        except Refused:
            return None
        return (kind, machine, deed)
    if kind in ("settle", "begin_settling") and free:
        machine = dice.choice(free)
        lot = some_lot(dice, plain.heards[machine])
        return (kind, machine, lot) if lot else None
    if kind in ("press", "begin_pressing") and free:
        return (kind, dice.choice(free))
    if kind in ("turn", "finish"):
        wanted = [at for at in busy if (plain.begun[at] == "copied") == (kind == "turn")]
        return (kind, dice.choice(wanted)) if wanted else None
    if kind == "cut" and ups:
        machine = dice.choice(ups)
        return (kind, machine, tuple(at for at in range(held[machine]) if dice.random() < 0.7))
    if kind == "up" and offs:
        return (kind, dice.choice(offs))
    if kind == "send" and ups and len(plain.heards) > 1:
        machine = dice.choice(ups)
        return (kind, machine, dice.choice([at for at in range(len(plain.heards)) if at != machine]))
    if kind in ("take", "begin_taking") and letters:
        return (kind, dice.choice(letters))
    if kind in ("lose", "double") and plain.bag and len(plain.bag) < 12:
        return (kind, dice.randrange(len(plain.bag)))
    if kind == "meet" and len(free) > 1:
        return (kind, *dice.sample(free, 2))
    if kind == "gather" and not busy:
        return (kind,)
    return None


def some_deed(dice):
    """A plain deed by chance."""
    word, path = dice.choice(("write", "write", "make", "make", "drop", "move")), dice.choice(PATHS)
    rest = {"write": (dice.choice("123"),), "move": (dice.choice(PATHS),)}
    return (word, path) + rest.get(word, ())


def some_lot(dice, heard):
    """What some settling chooses of some parts; None if nothing quarrels."""
    found = parts(heard)
    if not found or max(map(len, found)) > 16:
        return None
    lot = dice.choice(settlings(heard, 5))
    some = dice.sample(found, dice.randint(1, min(2, len(found))))
    chosen = [key for key in lot if any(key in part for part in some)]
    return chosen if len(chosen) < 4 else None
