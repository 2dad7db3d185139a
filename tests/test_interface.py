"""[23]: the package, its modules, and the names and arguments that they have."""

import importlib
import inspect
import os
import unittest

import homeshold

# For each module that has landed: its functions, and their arguments in order.
FUNCTIONS = {
    "basics": {
        "is_name": ("thing",), "is_text": ("thing",), "is_row": ("thing",), "is_head": ("thing",),
        "is_members": ("thing",), "majority": ("members",), "few": ("members",), "chopped": ("text",),
        "joined": ("pieces",),
    },
    "texts": {
        "packed": ("thing",), "unpacked": ("text",), "check": ("text",), "sealed": ("thing",), "unsealed": ("text",),
    },
    "disks": {
        "lines": ("text",), "opened": ("disk",), "rest": ("text",), "noted": ("disk", "item", "most"),
        "kept": ("disk", "items", "most"), "standing": ("disk",),
    },
    "tables": {
        "bare_table": (), "behind": ("table", "deed"), "is_table": ("thing",), "is_deed": ("thing",), "is_closed": ("table",),
        "head_of": ("table", "name"), "led_blocks": ("table",),
    },
    "letters": {"is_letter": ("thing",)},
    "answers": {"answer": ("home", "table", "letter")},
    "mending": {"begin_mending": ("home", "table", "other")},
    "stations": {"table_of": ("disk",)},
    "histories": {
        "is_history": ("thing",), "right_order": ("history",), "is_right_order": ("history", "thing"), "bar": ("history",),
        "is_bar": ("history", "thing"),
    },
    "watch": {"meaning": ("world",), "sure": ("world", "name"), "lacking_homes": ("world",), "complaints": ("world",)},
    "calls": {"calls_of": ("world",)},
    "days": {"day": ("world",), "relived": ("text",)},
    "values": {
        "values": ("prime", "lot", "places"), "roots": ("prime", "polynomial", "lot"),
        "difference": ("prime", "own", "many", "places", "told", "most"), "number_of": ("name", "stamp"),
    },
}

# For each module that has landed: its classes, what they are made of, and their methods with their arguments.
CLASSES = {
    "disks": {
        "Disk": ((), {
            "area": ("k",), "append": ("k", "text", "most"), "clear": ("k",), "shorten": ("k", "many"), "copy": (),
            "__eq__": ("other",),
        }),
    },
    "hands": {
        "Hand": (("hand", "epoch", "members", "ahead"), {
            "begin": ("op",), "take": ("letter",), "again": (), "tick": (), "running": (), "result": (), "at_place": (),
            "quick": ("name",), "copy": (),
        }),
    },
    "world": {
        "World": (("homes", "members"), {
            "event": ("event",), "beginning": (), "bag": (), "history": (), "events": (), "moments": (), "table": ("i",),
            "disk": ("i",), "homes": (), "ended": (), "hands": (), "hand": ("h",), "copy": (), "settle": ("most",),
        }),
    },
    "store": {
        "Store": (("homes", "members"), {
            "write": ("name", "text"), "remove": ("name",), "copy_to": ("name", "other"), "read": ("name",), "names": (),
            "move": ("members",), "fall": ("i",), "rise": ("i",), "lose": ("i",), "world": (),
        }),
    },
}

FIELDS = {"NoItem": "index", "BadText": "place", "TooMany": "most"}


def module(name):
    return importlib.import_module("homeshold." + name)


class TestInterface(unittest.TestCase):
    def test_package(self):
        folder = os.path.dirname(os.path.dirname(os.path.abspath(__file__)))
        self.assertEqual(os.path.abspath(homeshold.__file__), os.path.join(folder, "homeshold", "__init__.py"))

    def test_functions_are_defined_in_their_files(self):
        for name, functions in FUNCTIONS.items():
            for word in functions:
                with self.subTest(module=name, function=word):
                    function = getattr(module(name), word)
                    self.assertTrue(inspect.isfunction(function))
                    self.assertEqual(function.__module__, "homeshold." + name)
                    self.assertEqual(function.__name__, word)
                    self.assertEqual(
                        os.path.basename(function.__code__.co_filename), name + ".py"
                    )

    def test_arguments(self):
        for name, functions in FUNCTIONS.items():
            for word, arguments in functions.items():
                with self.subTest(module=name, function=word):
                    parameters = inspect.signature(getattr(module(name), word)).parameters.values()
                    self.assertEqual(tuple([one.name for one in parameters]), arguments)
                    for one in parameters:
                        self.assertEqual(one.kind, inspect.Parameter.POSITIONAL_OR_KEYWORD)
                        self.assertIs(one.default, inspect.Parameter.empty)

    def test_classes_are_defined_in_their_files(self):
        for name, classes in CLASSES.items():
            for word, (arguments, methods) in classes.items():
                thing = getattr(module(name), word)
                self.assertTrue(inspect.isclass(thing))
                self.assertEqual((thing.__module__, thing.__name__), ("homeshold." + name, word))
                self.assertEqual(tuple(inspect.signature(thing).parameters), arguments)
                for method, parts in methods.items():
                    with self.subTest(module=name, method=method):
                        # In the class itself, not in a base class alone.
                        function = vars(thing)[method]
                        self.assertTrue(inspect.isfunction(function))
                        self.assertEqual(tuple(inspect.signature(function).parameters), ("self",) + parts)
                        self.assertEqual(os.path.basename(function.__code__.co_filename), name + ".py")

    def test_methods_take_their_arguments_by_position(self):
        for name, classes in CLASSES.items():
            for word, (_, methods) in classes.items():
                for method in methods:
                    parameters = inspect.signature(vars(getattr(module(name), word))[method]).parameters.values()
                    for one in parameters:
                        self.assertEqual(one.kind, inspect.Parameter.POSITIONAL_OR_KEYWORD)
                        self.assertIs(one.default, inspect.Parameter.empty)

    def test_errors_are_defined_in_their_file(self):
        found = {
            name: thing for name, thing in vars(module("errors")).items() if inspect.isclass(thing)
        }
        self.assertEqual(len(found), 31)
        for name, thing in found.items():
            self.assertEqual((thing.__module__, thing.__name__), ("homeshold.errors", name))

    def test_fields_of_errors(self):
        for name, field in FIELDS.items():
            parameters = inspect.signature(getattr(module("errors"), name)).parameters
            self.assertEqual(tuple(parameters), (field,))


if __name__ == "__main__":
    unittest.main()
