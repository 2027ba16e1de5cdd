"""The names and arguments of the interface, each in the file under which the document lists it."""

import importlib
import inspect
import unittest

FUNCTIONS = {
    "values": {
        "is_integer": "(thing)", "is_number": "(thing)", "is_text": "(thing)", "is_value": "(thing)",
        "depth": "(value)",
    },
    "words": {"to_words": "(value)", "take_value": "(words, at)", "from_words": "(words)"},
    "frames": {
        "frame_blocks": "(generation, number, words)",
        "read_frame": "(disk, at, generation, number)",
    },
}

CLASSES = {
    "disk": {
        "Disk": {
            "__init__": "(self)", "write": "(self, at, block)", "read": "(self, at)", "sync": "(self)",
            "lose_power": "(self, fates)", "arm": "(self, fates, *, after=0)", "disarm": "(self)",
            "stored": "(self)", "clone": "(self)",
            "pending": property, "armed": property, "extent": property,
        },
    },
}


class InterfaceTest(unittest.TestCase):
    def test_functions(self):
        for module, functions in FUNCTIONS.items():
            for name, signature in functions.items():
                with self.subTest(module=module, name=name):
                    function = getattr(importlib.import_module("appendhall." + module), name)
                    self.assertEqual(function.__module__, "appendhall." + module)
                    self.assertEqual(str(inspect.signature(function)), signature)

    def test_classes(self):
        for module, classes in CLASSES.items():
            for name, members in classes.items():
                found = getattr(importlib.import_module("appendhall." + module), name)
                self.assertEqual(found.__module__, "appendhall." + module)
                for member, wanted in members.items():
                    with self.subTest(module=module, name=name, member=member):
                        self.check_member(vars(found)[member], wanted)

    def check_member(self, member, wanted):
        if wanted is property:
            self.assertIsInstance(member, property)
        elif wanted.startswith("static "):
            self.assertIsInstance(member, staticmethod)
            self.assertEqual("static " + str(inspect.signature(member.__func__)), wanted)
        else:
            self.assertTrue(inspect.isfunction(member))
            self.assertEqual(str(inspect.signature(member)), wanted)


if __name__ == "__main__":
    unittest.main()
