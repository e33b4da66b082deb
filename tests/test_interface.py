"""The interface: each name stands in the file under which the document lists it."""

import importlib
import inspect
import unittest

from reels.reel import Reel

FUNCTIONS = {
    "reels.fracs": {
        "made": ["top", "bottom"],
        "added": ["one", "two"],
        "less": ["one", "two"],
        "timed": ["one", "two"],
        "over": ["one", "two"],
        "is_below": ["one", "two"],
    },
    "reels.times": {
        "as_frames": ["time"],
        "as_seconds": ["time", "rate"],
        "as_clock": ["time", "rate"],
        "read_time": ["text", "rate"],
    },
    "reels.shows": {
        "length": ["show"],
        "normal": ["show"],
        "frame_at": ["show", "time"],
        "taken": ["show", "begin", "end"],
    },
    "reels.cues": {
        "parts": ["show", "cue"],
        "listing": ["show", "cues"],
    },
    "reels.moving": {
        "moved": ["rows", "rule", "end"],
    },
    "reels.notes": {
        "written": ["cues"],
        "read_cues": ["text"],
    },
}
CLASSES = {
    "reels.errors": ["ReelError", "BadTime", "BadNote", "OffReel", "NoDeed", "TooTight"],
    "reels.reel": ["Reel"],
}
REEL_METHODS = {
    "__init__": ["self", "show"],
    "show": ["self"],
    "out": ["self", "begin", "end"],
    "into": ["self", "time", "other"],
    "faster": ["self", "begin", "end", "factor"],
    "back": ["self"],
    "again": ["self"],
}


class InterfaceTest(unittest.TestCase):
    def test_functions(self):
        for module, functions in FUNCTIONS.items():
            for name, arguments in functions.items():
                with self.subTest(module=module, name=name):
                    function = getattr(importlib.import_module(module), name)
                    self.assertTrue(inspect.isfunction(function))
                    self.assertEqual(function.__module__, module)
                    self.assertEqual(list(inspect.signature(function).parameters), arguments)

    def test_classes(self):
        for module, names in CLASSES.items():
            for name in names:
                with self.subTest(module=module, name=name):
                    own = getattr(importlib.import_module(module), name)
                    self.assertTrue(inspect.isclass(own))
                    self.assertEqual(own.__module__, module)

    def test_the_methods_stand_in_the_class_itself(self):
        for name, arguments in REEL_METHODS.items():
            with self.subTest(name=name):
                method = Reel.__dict__[name]
                self.assertTrue(inspect.isfunction(method))
                self.assertEqual(list(inspect.signature(method).parameters), arguments)


if __name__ == "__main__":
    unittest.main()
