"""The interface: names, arguments, and the file in which each one is defined."""

import inspect
import unittest
from pathlib import Path

from clothlayers import cloths, layers, looms, notes, turning

PACKAGE = Path(__file__).resolve().parent.parent / "clothlayers"

FUNCTIONS = [
    (cloths, "need_cloth", ["thing"]),
    (cloths, "threads", ["cloth"]),
    (cloths, "over", ["cloth", "one", "other"]),
    (cloths, "beneath", ["cloth", "thread"]),
    (cloths, "cloth_of", ["cloth", "some"]),
    (turning, "turned", ["cloth"]),
    (turning, "moved", ["cloth", "down", "right"]),
    (turning, "repeated", ["cloth", "down", "right"]),
    (turning, "least_repeat", ["cloth"]),
    (turning, "same", ["cloth", "other"]),
    (looms, "need_loom", ["thing"]),
    (looms, "woven", ["loom"]),
    (looms, "loom_of", ["cloth"]),
    (looms, "apart", ["cloth", "one", "other"]),
    (layers, "way", ["cloth", "one", "other"]),
    (layers, "hangs", ["cloth"]),
    (layers, "layers", ["cloth"]),
    (notes, "shown", ["cloth"]),
    (notes, "read", ["text"]),
]


class InterfaceTest(unittest.TestCase):
    def test_each_function_stands_in_its_file(self):
        for module, name, _ in FUNCTIONS:
            self.assertEqual(getattr(module, name).__module__, module.__name__)

    def test_each_function_takes_its_arguments(self):
        for module, name, arguments in FUNCTIONS:
            self.assertEqual(list(inspect.signature(getattr(module, name)).parameters), arguments)

    def test_the_package_imports_nothing_from_outside(self):
        for path in PACKAGE.glob("*.py"):
            for line in path.read_text(encoding="utf-8").splitlines():
                if line.startswith(("import ", "from ")):
                    self.assertTrue(line.startswith("from clothlayers."), f"{path.name}: {line}")


if __name__ == "__main__":
    unittest.main()
