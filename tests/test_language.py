"""The part of Python that the package keeps to, as far as it can be seen at a glance."""

import ast
import pathlib
import re
import unittest

import geneturns

FOLDER = pathlib.Path(geneturns.__file__).parent
WORDS = re.compile(
    r"\b(type|typing|typing_extensions|enum|Enum|IntEnum|StrEnum|Flag|IntFlag|Generic|Protocol|ABC|ABCMeta"
    r"|namedtuple|NamedTuple|TypedDict|TYPE_CHECKING|abstractmethod)\b|dataclass|overload|contextmanager")
STATEMENTS = (
    ast.With, ast.Match, ast.Delete, ast.Global, ast.Nonlocal, ast.Assert, ast.Yield, ast.YieldFrom, ast.Await,
    ast.AsyncFunctionDef, ast.AsyncFor, ast.AsyncWith, ast.Starred, ast.NamedExpr, ast.SetComp, ast.DictComp,
    ast.GeneratorExp, ast.Div)


def texts():
    return [file.read_text(encoding="utf-8") for file in sorted(FOLDER.glob("*.py"))]


class Language(unittest.TestCase):
    def test_nothing_but_python_files_lies_in_the_package(self):
        others = [path.name for path in FOLDER.iterdir() if path.suffix != ".py" and path.name != "__pycache__"]
        self.assertEqual(others, [])

    def test_size_and_signs(self):
        for text in texts():
            lines = text.split("\n")
            self.assertLessEqual(len(lines), 400)
            self.assertLessEqual(max(len(line) for line in lines), 120)
            self.assertRegex(text, r"\A[ -~\n]*\Z")
            self.assertIsNone(WORDS.search(text))

    def test_functions_and_statements(self):
        for text in texts():
            for node in ast.walk(ast.parse(text)):
                self.assertNotIsInstance(node, STATEMENTS)
                if isinstance(node, ast.FunctionDef):
                    self.assertLessEqual(node.end_lineno - node.lineno + 1, 40)
                    self.assertEqual(node.decorator_list, [])
                if isinstance(node, (ast.For, ast.While)):
                    self.assertEqual(node.orelse, [])
                if isinstance(node, ast.Constant):
                    self.assertNotIsInstance(node.value, (float, bytes, complex))


if __name__ == "__main__":
    unittest.main()
