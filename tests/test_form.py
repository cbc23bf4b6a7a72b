"""The interface stands where the document lists it, and the files have the form they must have."""

import ast
import pathlib
import re
import unittest

PACKAGE = pathlib.Path(__file__).resolve().parent.parent / "warmcold"

INTERFACE = {
    "paths.py": {"answers_to": ["length", "thing", "stands"], "can_lie": ["length", "stands", "answers"]},
    "ahead.py": {
        "how_many": ["length", "stands"], "alike": ["length", "stands"],
        "fewest_ahead": ["length"], "stands_ahead": ["length"],
    },
    "going.py": {
        "stands_from": ["length", "stretch", "place"], "stands_at_all": ["length"],
        "steps_from": ["length", "stretch", "place"],
    },
    "wrong.py": {"fewest_wrong": ["length", "stands", "answers"]},
    "rings.py": {"can_lie_round": ["length", "stands", "answers"], "how_many_round": ["length", "stands"]},
}

METHODS = {
    "__init__": ["self", "length"], "stand": ["self", "place"], "answer": ["self", "word"], "back": ["self"],
    "stands": ["self"], "answers": ["self"], "can_lie": ["self"], "waits": ["self"],
    "__len__": ["self"], "__eq__": ["self", "other"],
}

BARRED_WORDS = re.compile(
    r"\b(type|typing|typing_extensions|enum|Enum|IntEnum|StrEnum|Flag|IntFlag|Generic|Protocol|ABC|ABCMeta"
    r"|namedtuple|NamedTuple|TypedDict|TYPE_CHECKING|abstractmethod)\b|dataclass|overload|contextmanager"
)


def sources():
    return [(path.name, path.read_text(encoding="utf-8")) for path in sorted(PACKAGE.glob("*.py"))]


def body_of(name):
    return ast.parse((PACKAGE / name).read_text(encoding="utf-8")).body


def arguments_by_name(body):
    return {
        node.name: [argument.arg for argument in node.args.args]
        for node in body if isinstance(node, ast.FunctionDef)
    }


class FormTest(unittest.TestCase):
    def test_the_interface_is_defined_in_its_files(self):
        for name, functions in INTERFACE.items():
            found = arguments_by_name(body_of(name))
            for function, arguments in functions.items():
                self.assertEqual(found.get(function), arguments, function)

    def test_the_methods_are_defined_in_the_class_itself(self):
        bodies = {node.name: node.body for node in body_of("searches.py") if isinstance(node, ast.ClassDef)}
        self.assertEqual(arguments_by_name(bodies["Search"]), METHODS)

    def test_only_python_files(self):
        others = [path.name for path in PACKAGE.iterdir() if path.suffix != ".py" and path.name != "__pycache__"]
        self.assertEqual(others, [])
        self.assertTrue((PACKAGE / "__init__.py").is_file())

    def test_size_and_characters(self):
        for name, text in sources():
            lines = text.split("\n")
            self.assertLessEqual(len(lines), 399, name)
            self.assertLessEqual(max(len(line) for line in lines), 120, name)
            self.assertTrue(all(sign == "\n" or " " <= sign <= "~" for sign in text), name)
            for node in ast.walk(ast.parse(text)):
                if isinstance(node, ast.FunctionDef):
                    self.assertLessEqual(node.end_lineno - node.lineno + 1, 40, node.name)

    def test_imports_only_from_the_package(self):
        for name, text in sources():
            for node in ast.walk(ast.parse(text)):
                self.assertNotIsInstance(node, ast.Import, name)
                if isinstance(node, ast.ImportFrom):
                    self.assertEqual(node.level, 0, name)
                    self.assertTrue(node.module.startswith("warmcold."), name)

    def test_no_generator_expression(self):
        # A class of the package has an __eq__, and beside it any, all and their like take lists.
        for name, text in sources():
            for node in ast.walk(ast.parse(text)):
                self.assertNotIsInstance(node, ast.GeneratorExp, name)

    def test_no_barred_word(self):
        for name, text in sources():
            self.assertIsNone(BARRED_WORDS.search(text), name)


if __name__ == "__main__":
    unittest.main()
