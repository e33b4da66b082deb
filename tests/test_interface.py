"""The interface: each name stands in the file under which the document lists it."""

import importlib
import inspect
import unittest

FUNCTIONS = {
    "reels.fracs": {
        "made": ["top", "bottom"],
        "added": ["one", "two"],
        "less": ["one", "two"],
        "timed": ["one", "two"],
        "over": ["one", "two"],
        "is_below": ["one", "two"],
    },
    "reels.times": {
        "as_frames": ["time"],
        "as_seconds": ["time", "rate"],
        "as_clock": ["time", "rate"],
        "read_time": ["text", "rate"],
    },
    "reels.shows": {
        "length": ["show"],
        "normal": ["show"],
        "frame_at": ["show", "time"],
        "taken": ["show", "begin", "end"],
    },
}
CLASSES = {
    "reels.errors": ["ReelError", "BadTime", "BadNote", "OffReel", "NoDeed", "TooTight"],
}


class InterfaceTest(unittest.TestCase):
    def test_functions(self):
        for module, functions in FUNCTIONS.items():
            for name, arguments in functions.items():
                with self.subTest(module=module, name=name):
                    function = getattr(importlib.import_module(module), name)
                    self.assertTrue(inspect.isfunction(function))
                    self.assertEqual(function.__module__, module)
                    self.assertEqual(list(inspect.signature(function).parameters), arguments)

    def test_classes(self):
        for module, names in CLASSES.items():
            for name in names:
                with self.subTest(module=module, name=name):
                    own = getattr(importlib.import_module(module), name)
                    self.assertTrue(inspect.isclass(own))
                    self.assertEqual(own.__module__, module)


if __name__ == "__main__":
    unittest.main()
