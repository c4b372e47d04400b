"""The names, arguments and places of the document's interface."""

import importlib
import inspect
import unittest

FUNCTIONS = {
    "leavechain.leaves": {
        "is_rooms": "(thing)",
        "is_leave": "(thing)",
        "lies_within": "(leave, other)",
        "show_rooms": "(rooms)",
        "show_leave": "(leave)",
        "read_rooms": "(text)",
        "read_leave": "(text)",
    },
    "leavechain.programs": {
        "read_program": "(text)",
        "show_program": "(steps)",
        "is_steps": "(thing)",
        "most_steps": "(steps)",
    },
    "leavechain.logs": {
        "bare": "(log)",
        "told_log": "(rooms, bare_log, moment)",
        "log_holds": "(rooms, log, moment)",
    },
    "leavechain.weavings": {
        "weavings": "(rooms, programs)",
        "spans": "(rooms, programs, room)",
    },
    "leavechain.plans": {
        "is_trust": "(thing)",
        "is_plan": "(trust, thing)",
        "least_plan": "(trust)",
        "tree_holds": "(trust, most, tree)",
        "plan_leaves": "(trust, plan, room)",
    },
}
METHODS = {
    ("leavechain.ledger", "Ledger"): {
        "__init__": "(self, rooms)",
        "move_on": "(self, moment)",
        "moment": "(self)",
        "stands": "(self, number)",
        "chain": "(self, actor, deed, room)",
        "why_not": "(self, actor, deed, room)",
        "give": "(self, giver, deeds, room, holder, since, until, *, passes=0)",
        "take": "(self, actor, number)",
        "leaves": "(self)",
        "taken": "(self)",
    },
    ("leavechain.hall", "Hall"): {
        "__init__": "(self, rooms, programs)",
        "go": "(self, actor)",
        "wait": "(self, *, moments=1)",
        "moment": "(self)",
        "is_done": "(self, actor)",
        "locals_of": "(self, actor)",
        "worths": "(self)",
        "leaves": "(self)",
        "log": "(self)",
    },
}
ERRORS = (
    "HallError", "NoHall", "NoRoom", "NoLeave", "NoGift", "NotLet", "NoMoment",
    "NoActor", "Done", "TooMany", "NoText", "NoLog",
)


class InterfaceTest(unittest.TestCase):
    def test_functions_stand_in_their_files_with_their_arguments(self):
        for place, functions in FUNCTIONS.items():
            module = importlib.import_module(place)
            for name, arguments in functions.items():
                with self.subTest(place=place, name=name):
                    function = getattr(module, name)
                    self.assertEqual(function.__module__, place)
                    self.assertTrue(inspect.isfunction(function))
                    self.assertEqual(str(inspect.signature(function)), arguments)

    def test_methods_stand_in_their_classes_themselves_with_their_arguments(self):
        for (place, name), methods in METHODS.items():
            made = getattr(importlib.import_module(place), name)
            self.assertEqual(made.__module__, place)
            for method, arguments in methods.items():
                with self.subTest(name=name, method=method):
                    self.assertEqual(str(inspect.signature(vars(made)[method])), arguments)

    def test_errors_stand_in_their_file(self):
        module = importlib.import_module("leavechain.errors")
        for name in ERRORS:
            with self.subTest(name=name):
                self.assertEqual(getattr(module, name).__module__, "leavechain.errors")

    def test_functions_take_their_arguments_by_name(self):
        leaves = importlib.import_module("leavechain.leaves")
        programs = importlib.import_module("leavechain.programs")
        leave = (0, "den", ("look",), "ann", "bob", 0, 1, 0, None)
        rooms = {"den": ("ann", 1)}
        steps = ((("rest",), 1),)
        self.assertTrue(leaves.is_rooms(thing=rooms))
        self.assertTrue(leaves.is_leave(thing=leave))
        self.assertFalse(leaves.lies_within(leave=leave, other=leave))
        self.assertEqual(leaves.read_rooms(text=leaves.show_rooms(rooms=rooms)), rooms)
        self.assertEqual(leaves.read_leave(text=leaves.show_leave(leave=leave)), leave)
        self.assertEqual(programs.read_program(text=programs.show_program(steps=steps)), steps)
        self.assertTrue(programs.is_steps(thing=steps))
        self.assertEqual(programs.most_steps(steps=steps), 1)


if __name__ == "__main__":
    unittest.main()
