"""The interface: each name stands in its own file, with the parameters that are told."""

import importlib
import inspect
import unittest

FUNCTIONS = {
    "checks": {
        "is_integer": "value", "is_within": "value least most", "are_integers": "value",
        "is_numbers": "value many most", "is_lot": "value many", "is_name": "value",
    },
    "papers": {"fixed": "value"},
    "blocks": {"is_block": "value"},
    "images": {"images": "disk", "could_leave": "disk image", "shows_left": "disk image value"},
    "records": {"is_row": "value", "record_blocks": "stamp number row", "record_at": "blocks at"},
    "heads": {"head_block": "epoch half first", "read_heads": "one other"},
    "logs": {"read_log": "blocks first", "meaning": "image"},
    "check_logs": {"comings": "disk", "may_come": "disk rows", "shows_may_come": "disk rows value"},
    "codes": {"row_of": "event", "event_of": "row"},
    "paths": {
        "is_path": "value", "is_spot": "value", "is_value": "value", "is_above": "one other", "folder_of": "path",
        "paths_above": "path", "path_text": "path", "path_of": "text",
    },
    "plain": {"is_deed": "value", "plainly": "tree deed", "changes_by": "tree deed"},
    "deed_texts": {"deed_text": "deed", "deed_of": "text"},
    "changes": {"is_change": "value", "do_quarrel": "one other"},
    "heard": {"is_past": "heard one other", "changes": "heard", "change": "heard key"},
    "quarrels": {"overruler": "heard key", "live": "heard", "quarrels": "heard", "parts": "heard"},
    "settlings": {
        "tree_of": "heard lot", "fills": "heard lot", "shown_lot": "heard", "shown": "heard",
        "is_settling": "heard lot", "many_settlings": "heard", "settlings": "heard most",
    },
    "fates": {"fate": "heard key"},
    "check_settlings": {"shows_fate": "heard key value"},
    "deeds": {"unsettled": "heard path", "event_for": "heard machine deed", "is_let": "heard machine deed"},
    "settle": {"settle_event": "heard machine lot"},
    "letters": {
        "hello": "heard sender to", "taken": "heard letter", "answer": "heard letter news", "meeting": "mine its sender to",
    },
    "worlds": {"is_step": "value"},
    "histories": {"history": "world", "lacked": "world machine"},
    "pictures": {"disk_picture": "disk", "web": "heard"},
}
CLASSES = {
    "papers": {"Paper": "word parts", "Denial": "word parts"},
    "disks": {"Disk": "many"},
    "images": {"Left": "landed", "NotLeft": "at"},
    "logs": {"Reading": "rows behind stamp", "Meaning": "epoch half first rows behind stamp", "Log": "disk"},
    "check_logs": {"Comes": "landed", "Never": ""},
    "trees": {"Tree": "pairs"},
    "events": {"Event": "machine number past changes"},
    "heard": {"Heard": "machines events"},
    "fates": {"Everywhere": "key", "Disputed": "with_it without", "Overruled": "by"},
    "machines": {"Machine": "number machines disk"},
    "letters": {"Letter": "sender to counts events"},
    "worlds": {"World": "machines blocks"},
    "desk": {"Desk": "machines blocks"},
}
METHODS = {
    ("disks", "Disk"): {"of": "image", "block_at": "self at", "write": "self at block", "flush": "self",
                        "cut": "self landed", "__eq__": "self other"},
    ("logs", "Log"): {"append": "self row", "flush": "self", "copy": "self rows", "turn": "self", "land": "self"},
    ("papers", "Paper"): {"__eq__": "self other"},
    ("trees", "Tree"): {"at": "self path", "names": "self path", "of_text": "text", "__eq__": "self other",
                        "__str__": "self"},
    ("events", "Event"): {"__eq__": "self other"},
    ("heard", "Heard"): {"has": "self key", "event": "self key", "with_event": "self event", "joined": "self other",
                         "lacking": "self counts", "__eq__": "self other"},
    ("letters", "Letter"): {"__eq__": "self other"},
    ("machines", "Machine"): {
        "begin": "self deed", "begin_settling": "self lot", "begin_taking": "self letter", "begin_pressing": "self",
        "turn": "self", "finish": "self", "do": "self deed", "settle": "self lot", "take": "self letter", "press": "self",
        "hello": "self to", "cut": "self landed", "up": "self",
    },
    ("worlds", "World"): {"step": "self step", "run": "self steps", "are_agreed": "self"},
    ("desk", "Desk"): {"told": "self line", "undo": "self", "twin": "self", "__len__": "self", "__eq__": "self other"},
}


def parameters(what):
    """The names of the parameters of a function or a class."""
    return list(inspect.signature(what).parameters)


class InterfaceTest(unittest.TestCase):
    def test_functions_and_classes(self):
        for table, is_right in ((FUNCTIONS, inspect.isfunction), (CLASSES, inspect.isclass)):
            for module, names in table.items():
                for name, wanted in names.items():
                    what = getattr(importlib.import_module("meettrees." + module), name)
                    self.assertTrue(is_right(what), name)
                    self.assertEqual(what.__module__, "meettrees." + module)
                    self.assertEqual(parameters(what), wanted.split(), name)

    def test_methods_stand_in_their_class(self):
        for (module, kind), names in METHODS.items():
            body = vars(getattr(importlib.import_module("meettrees." + module), kind))
            for name, wanted in names.items():
                method = body[name]
                method = method.__func__ if isinstance(method, (staticmethod, classmethod)) else method
                self.assertEqual(parameters(method), wanted.split(), name)


if __name__ == "__main__":
    unittest.main()
