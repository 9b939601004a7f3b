"""Codes: the rows of integers that stand for events."""

from meettrees.checks import are_integers
from meettrees.errors import BadEvent, BadRow
from meettrees.events import MOST_CHANGES, MOST_COUNT, MOST_MACHINES, Event, fault_of
from meettrees.papers import fixed
from meettrees.paths import LONGEST_PATH, LONGEST_TEXT, TEXT_SIGNS

# The places of these words are the numbers that stand for them in a row.
WORDS = ("none", "folder", "file")


def row_of(event):
    """The row of an event."""
    if not isinstance(event, Event):
        raise BadEvent("event")
    row = [event.machine, event.number, len(event.past), *event.past, len(event.changes)]
    for path, value in event.changes:
        row.append(len(path))
        for name in path:
            row.extend(string_row(name))
        row.append(WORDS.index(value[0]))
        for text in value[1:]:
            row.extend(string_row(text))
    return tuple(row)


def string_row(text):
    """How many signs a name or a text has, and their numbers."""
    return [len(text)] + [ord(sign) for sign in text]


def event_of(row):
    """The Event whose row this is."""
    if not are_integers(row):
        raise BadRow("row")
    told = fixed(row)
    parts = parts_read(Reader(told))
    if fault_of(*parts) is not None:
        raise BadRow("row")
    event = Event(*parts)
    # Whatever was read, each event has one row: so it is enough to ask whether this is the one.
    if row_of(event) != told:
        raise BadRow("row")
    return event


class Reader:
    """Reads a row from the left.

    What is wrong, or lacking, is read as the least number that could stand there: so what is read is never long.
    """

    def __init__(self, row):
        self.row = row
        self.behind = 0
        self.signs = {ord(sign): sign for sign in TEXT_SIGNS}

    def read(self, least, most):
        """The next number, from least to most."""
        number = self.row[self.behind] if self.behind < len(self.row) else least
        self.behind += 1
        return number if least <= number <= most else least

    def read_string(self):
        """The next name or text."""
        many = self.read(0, LONGEST_TEXT)
        numbers = [self.read(0, MOST_COUNT) for _ in range(many)]
        return "".join([self.signs.get(number, "") for number in numbers])


def parts_read(reader):
    """The machine, the number, the past and the changes that a reader comes to next."""
    machine = reader.read(0, MOST_MACHINES - 1)
    number = reader.read(1, MOST_COUNT)
    many = reader.read(1, MOST_MACHINES)
    past = [reader.read(0, MOST_COUNT) for _ in range(many)]
    many = reader.read(1, MOST_CHANGES)
    return (machine, number, past, [change_read(reader) for _ in range(many)])


def change_read(reader):
    """The change that a reader comes to next."""
    many = reader.read(1, LONGEST_PATH)
    path = [reader.read_string() for _ in range(many)]
    word = WORDS[reader.read(0, len(WORDS) - 1)]
    return (path, (word, reader.read_string()) if word == "file" else (word,))
