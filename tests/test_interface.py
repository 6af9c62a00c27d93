"""The section "The interface": names, arguments, and the file in which each one is defined."""

import ast
import inspect
import unittest
from importlib import import_module

from spindlegate.flash import Flash
from spindlegate.hosts import Host
from spindlegate.log import Log
from spindlegate.paths import Path
from spindlegate.store import Store
from spindlegate.subsystem import Subsystem
from spindlegate.world import World

# For each module: its functions, and its classes with their arguments and methods.
FUNCTIONS = {
    "errors": {},
    "flash": {"flash_from": "image"},
    "records": {
        "make_record": "order kind host session counter fields",
        "is_record": "value",
        "field_count": "kind",
        "fields_of": "record",
        "answer_of": "record",
        "effects": "record",
    },
    "log": {},
    "index": {
        "value_at": "records topic snapshot",
        "snapshots_of": "records namespace",
        "live_records": "records",
        "core": "records",
        "shared_places": "records",
        "need": "records",
    },
    "collector": {"needed_records": "log block", "victim": "log", "collect": "log many"},
    "state": {
        "new_state": "",
        "apply_record": "state record",
        "fold": "records",
        "space_of": "state namespace",
        "read_cell": "state namespace place",
        "read_snapshot": "state namespace number place",
    },
    "fences": {
        "key_of": "fence host",
        "holder_way": "fence host",
        "refusal": "fence host key command",
        "changes_nothing": "fence host command",
        "with_key": "fence host key",
        "without_key": "fence host",
        "with_holder": "fence reservation",
    },
    "store": {},
    "sessions": {},
    "subsystem": {"is_command": "value", "answer_due": "state host key command order", "namespace_of": "command"},
    "paths": {},
    "hosts": {},
    "world": {},
    "checks": {"check": "image", "image_records": "image", "image_need": "image", "spare_pages": "image"},
    "judge": {"first_fault": "rows cuts", "judge": "rows cuts"},
}
CLASSES = {
    "errors": {"SpindleError": {}, "NotValid": {}, "PowerOff": {}, "BadFlash": {}, "NoRoom": {}},
    "flash": {
        "Flash": {
            "__init__": "self blocks",
            "read": "self block page",
            "program": "self block page record",
            "erase": "self block",
            "wear": "self block",
            "fail_after": "self count",
            "cut": "self choice",
            "image": "self",
        },
    },
    "records": {},
    "log": {
        "Log": {
            "__init__": "self flash",
            "append": "self record is_copy",
            "room": "self is_copy",
            "erase": "self block",
            "state": "self block",
            "free_blocks": "self",
            "closed_blocks": "self",
            "pages": "self block",
            "records": "self",
            "top": "self",
            "holders": "self record",
        },
    },
    "store": {
        "Store": {
            "__init__": "self flash",
            "next_order": "self",
            "lasting_order": "self",
            "records": "self",
            "limit": "self",
            "need": "self",
            "need_with": "self kind host session counter fields",
            "fits": "self kind host session counter fields",
            "add": "self kind host session counter fields",
            "flush": "self",
        },
    },
    "sessions": {
        "Sessions": {
            "__init__": "self marks",
            "mark_of": "self host",
            "is_open": "self host",
            "connecting": "self host number",
            "next_told": "self host",
            "begin": "self host number",
            "kind_of": "self host session counter",
            "kept_answer": "self host session counter",
            "keep": "self host answer",
        },
    },
    "subsystem": {"Subsystem": {"__init__": "self store run", "carry_out": "self letter", "rows": "self"}},
    "paths": {
        "Path": {
            "__init__": "self",
            "send": "self letter to_host",
            "letters": "self to_host",
            "deliver": "self index to_host",
            "drop": "self index to_host",
            "double": "self index to_host",
            "set_up": "self up",
        },
    },
    "hosts": {
        "Host": {
            "__init__": "self number",
            "begin": "self command",
            "again": "self",
            "take": "self letter",
            "key": "self namespace",
            "ended": "self",
            "lost": "self",
        },
    },
    "world": {
        "World": {
            "__init__": "self blocks hosts",
            "play": "self acts",
            "history": "self",
            "cuts": "self",
            "state": "self",
        },
    },
}


def arguments(function):
    return " ".join(inspect.signature(function).parameters)


def defined_in(module):
    """The names of the functions and classes that stand in the file of a module."""
    with open(module.__file__, encoding="utf-8") as source:
        tree = ast.parse(source.read())
    return [node.name for node in tree.body if isinstance(node, (ast.FunctionDef, ast.ClassDef))]


class InterfaceTest(unittest.TestCase):
    def test_functions(self):
        for name, functions in FUNCTIONS.items():
            module = import_module(f"spindlegate.{name}")
            for function, expected in functions.items():
                self.assertIn(function, defined_in(module))
                self.assertEqual(arguments(getattr(module, function)), expected)

    def test_classes(self):
        for name, classes in CLASSES.items():
            module = import_module(f"spindlegate.{name}")
            for class_name, methods in classes.items():
                self.assertIn(class_name, defined_in(module))
                own = vars(getattr(module, class_name))
                for method, expected in methods.items():
                    self.assertIn(method, own)
                    self.assertEqual(arguments(own[method]), expected)

    def test_fields_are_there_from_the_beginning(self):
        flash = Flash(8)
        store = Store(flash)
        cases = {
            flash: "blocks", Log(flash): "flash", store: "flash log state waiting",
            Subsystem(store, 0): "store run sessions", Path(): "up", Host(0): "number session counter state",
            World(8, 1): "flash store hosts",
        }
        for made, fields in cases.items():
            for field in fields.split():
                self.assertIn(field, vars(made))


if __name__ == "__main__":
    unittest.main()
