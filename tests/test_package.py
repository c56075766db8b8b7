"""Rules of the language that a plain look at the files can see."""

import ast
import os
import re
import unittest

PACKAGE = os.path.join(os.path.dirname(os.path.dirname(os.path.abspath(__file__))), "warmove")

# Where the interface says that each name is defined.
DEFINED = {
    "errors.py": ["MoveError", "TooMany", "NoHouse", "NoLetter", "NoStep", "NoRow", "NoText"],
    "programs.py": ["is_program", "is_stand"],
    "ticks.py": ["tick"],
    "runs.py": ["run", "touches", "trace"],
    "rings.py": ["round_of"],
    "rounds.py": ["rounds"],
    "plans.py": ["left_by", "is_plan", "carried_by"],
    "stops.py": ["bars", "plan_for", "earliest", "least_left"],
    "forever.py": ["ever", "shows_never"],
    "fetched.py": ["fetched", "asked_for", "least_lost"],
    "handed.py": [
        "is_rulebook", "stand_behind", "two_run", "runs_on", "is_two_run", "is_runs_on", "changes", "rulebook",
    ],
    "post.py": ["Post"],
    "carried.py": ["Carried"],
    "texts.py": ["program_text", "read_program"],
    "desk.py": ["Desk"],
}

BARRED_WORDS = re.compile(
    r"\b(type|typing|typing_extensions|enum|Enum|IntEnum|StrEnum|Flag|IntFlag|Generic|Protocol|ABC|ABCMeta"
    r"|namedtuple|NamedTuple|TypedDict|TYPE_CHECKING|abstractmethod)\b|dataclass|overload|contextmanager"
)


def files():
    return [name for name in sorted(os.listdir(PACKAGE)) if name != "__pycache__"]


def text_of(name):
    with open(os.path.join(PACKAGE, name), "rb") as file:
        return file.read().decode("ascii")


def functions_of(name):
    return [node for node in ast.walk(ast.parse(text_of(name))) if isinstance(node, ast.FunctionDef)]


class TestPackage(unittest.TestCase):
    def test_folder_has_plain_files_only(self):
        self.assertIn("__init__.py", files())
        for name in files():
            self.assertRegex(name, r"\A([a-z][a-z0-9_]*|__init__|__main__)\.py\Z")

    def test_interface_stands_in_its_files(self):
        for name, defined in DEFINED.items():
            body = ast.parse(text_of(name)).body
            found = [node.name for node in body if isinstance(node, (ast.FunctionDef, ast.ClassDef))]
            for one in defined:
                self.assertEqual(found.count(one), 1, (name, one))

    def test_signs(self):
        for name in files():
            self.assertRegex(text_of(name), r"\A[ -~\n]*\Z", name)

    def test_sizes(self):
        for name in files():
            lines = text_of(name).splitlines()
            self.assertLess(len(lines), 400, name)
            self.assertLessEqual(max([len(line) for line in lines], default=0), 120, name)
            for function in functions_of(name):
                self.assertLessEqual(function.end_lineno - function.lineno + 1, 40, function.name)

    def test_barred_words(self):
        for name in files():
            self.assertIsNone(BARRED_WORDS.search(text_of(name)), name)

    def test_imports_from_the_package_only(self):
        for name in files():
            for node in ast.walk(ast.parse(text_of(name))):
                if isinstance(node, ast.ImportFrom):
                    self.assertRegex(node.module or "", r"\A(warmove\.[a-z0-9_]+|__future__)\Z", name)
                    self.assertEqual(node.level, 0, name)
                if isinstance(node, ast.Import):
                    self.assertEqual((name, [one.name for one in node.names]), ("__main__.py", ["sys"]))


if __name__ == "__main__":
    unittest.main()
