"""The interface: the names and arguments that the document tells are there, in their files."""

import importlib
import inspect
import unittest

FUNCTIONS = {
    "numbers": {"reckoned": ["op", "one", "other"]},
    "looking": {"is_step": ["thing"], "look": ["code"], "is_let_in": ["code"]},
    "machine": {"run": ["code", "packet"], "steps_of": ["code", "packet"]},
    "filters": {"read": ["text"], "takes": ["tree", "packet"]},
    "compiling": {"compiled": ["tree"]},
    "shrinking": {"shrunk": ["code"]},
    "lines": {"written": ["code"], "read_code": ["text"]},
}


class Interface(unittest.TestCase):
    def test_functions_and_their_arguments(self):
        for file, functions in FUNCTIONS.items():
            module = importlib.import_module(f"netsieve.{file}")
            for name, arguments in functions.items():
                with self.subTest(f"{file}.{name}"):
                    self.assertEqual(list(inspect.signature(getattr(module, name)).parameters), arguments)

    def test_arguments_by_name(self):
        from netsieve.compiling import compiled
        from netsieve.filters import read, takes
        from netsieve.lines import read_code, written
        from netsieve.machine import run
        from netsieve.shrinking import shrunk

        tree = read(text="len = 1")
        code = read_code(text=written(code=shrunk(code=compiled(tree=tree))))
        self.assertEqual(run(code=code, packet=[7]), 1)
        self.assertIs(takes(tree=tree, packet=[7]), True)


if __name__ == "__main__":
    unittest.main()
