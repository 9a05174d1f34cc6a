"""The interface: its modules, names and arguments, and that each is defined where it is listed."""

import importlib
import inspect
import unittest

# For each module its functions, and its classes with their methods; "self" is left out, a default is told behind "=".
FUNCTIONS = {
    "bottles": {"by_age": "bottles", "unlike": "bottles"},
    "plans": {"crowd": "spans, rate=1", "is_crowd": "spans, thing, rate=1"},
    "evenings": {"evening": "cellar, wishes, twins=False"},
    "notes": {"turns_of": "notes, order", "nearest": "notes", "floor_of": "notes"},
    "lost": {"how_many": "known, lost, hints", "settled": "known, lost, hints"},
    "lines": {"written": "bottles", "read": "text, size=75"},
}
CLASSES = {
    "bottles": {"Bottle": {
        "__init__": "maker, year, size=75", "__eq__": "other", "__str__": "", "__repr__": "", "is_elder": "other"}},
    "cellars": {"Cellar": {
        "__init__": "rooms, hold=6", "__len__": "", "__eq__": "other", "__str__": "", "__repr__": "",
        "lay": "bottle, room=0, shelf=0", "move": "number, room=0, shelf=0", "drink": "number, month, who=''",
        "give": "number, month, who=''", "smash": "number, month", "bind": "numbers",
        "drink_set": "number, month, who=''", "loosen": "number", "undo": "", "bottle": "number", "place": "number",
        "became": "number", "row": "room=0, shelf=0", "twins": "number", "rooms_with": "bottle", "counts": "",
        "set_of": "number", "twin": ""}},
    "plans": {"Plan": {
        "__init__": "spans, rate=1", "__len__": "", "__eq__": "other", "__str__": "", "month": "number",
        "drunk_in": "month", "holds": "thing", "put": "number, span", "turned": "other"}},
    "desk": {"Desk": {"__init__": "rooms, hold=6", "say": "line"}},
}


def module_of(name):
    return importlib.import_module("dimcellar." + name)


def arguments(function):
    return [str(parameter) for parameter in inspect.signature(function).parameters.values()]


class Interface(unittest.TestCase):
    def test_functions(self):
        for module, functions in FUNCTIONS.items():
            for name, wanted in functions.items():
                function = getattr(module_of(module), name)
                self.assertEqual(function.__module__, "dimcellar." + module, name)
                self.assertEqual(", ".join(arguments(function)), wanted, name)

    def test_classes_and_their_own_methods(self):
        for module, classes in CLASSES.items():
            for name, methods in classes.items():
                made = getattr(module_of(module), name)
                self.assertEqual(made.__module__, "dimcellar." + module, name)
                for method, wanted in methods.items():
                    self.assertIn(method, vars(made), name)
                    self.assertEqual(", ".join(arguments(vars(made)[method])[1:]), wanted, (name, method))
