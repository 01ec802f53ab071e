"""What a test can see of the rules of the language on files, lines and signs: L1, L10 and L14."""

import ast
import builtins
import pathlib
import re
import unittest

TOP = pathlib.Path(__file__).resolve().parent.parent
PACKAGE = TOP / "combstrip"

MOST_FUNCTION_LINES = 40
MOST_FILE_LINES = 400
MOST_LINE = 120

# What L14 rules out by name, the last list of L17 among it; a file's name is asked in small letters.
BARRED_NAMES = [
    "test", "tests", "testing", "site", "conftest", "sitecustomize", "usercustomize",
    "type", "typing", "typing_extensions", "enum", "intenum", "strenum", "flag", "intflag",
    "generic", "protocol", "abc", "abcmeta", "namedtuple", "typeddict", "type_checking", "abstractmethod",
] + [name.lower() for name in dir(builtins)]
BARRED_PARTS = ["dataclass", "overload", "contextmanager"]


def name_faults(name):
    """The faults of a file's or a folder's name, told without its ending."""
    if name in ("__init__", "__main__"):
        return []
    faults = []
    if not re.fullmatch("[a-z][a-z0-9_]*", name):
        faults.append("no plain lower-case name")
    if name in BARRED_NAMES or name.startswith("test_"):
        faults.append("a barred name")
    if any(part in name for part in BARRED_PARTS):
        faults.append("a barred part of a name")
    return faults


def sign_faults(data):
    """The faults of the signs in a file, told as bytes so that no row's end is made another."""
    strange = sorted(set(code for code in data if code != 10 and not 32 <= code <= 126))
    return ["a sign with the code " + str(code) for code in strange]


def size_faults(text):
    faults = []
    lines = text.split("\n")
    if text.endswith("\n"):
        lines = lines[:-1]
    if len(lines) > MOST_FILE_LINES:
        faults.append("a long file")
    for number, line in enumerate(lines, start=1):
        if len(line) > MOST_LINE:
            faults.append("a long line: " + str(number))
    for node in ast.walk(ast.parse(text)):
        if isinstance(node, (ast.FunctionDef, ast.AsyncFunctionDef)):
            if node.end_lineno - node.lineno + 1 > MOST_FUNCTION_LINES:
                faults.append("a long function: " + node.name)
    return faults


def paths_within(folder):
    """All that lies in a folder, but for what Python itself leaves there when the program runs."""
    return [path for path in sorted(folder.rglob("*")) if "__pycache__" not in path.parts]


class TestPackage(unittest.TestCase):
    def test_there_is_one_package_and_it_is_called_combstrip(self):
        packages = [path.parent.name for path in sorted(TOP.glob("*/__init__.py"))]
        self.assertEqual(packages, ["combstrip"])
        self.assertFalse((TOP / "__init__.py").exists())

    def test_the_files_of_the_interface_are_there(self):
        names = [path.name for path in paths_within(PACKAGE)]
        wanted = ["__init__.py", "errors.py", "sizes.py", "combs.py", "book.py", "shapes.py", "strip.py", "line.py"]
        for name in wanted + ["lengths.py", "fillings.py", "far.py"]:
            self.assertIn(name, names)

    def test_nothing_but_python_files_lies_in_the_package(self):
        for path in paths_within(PACKAGE):
            with self.subTest(path=str(path)):
                self.assertFalse(path.is_symlink())
                self.assertTrue(path.is_dir() or path.suffix == ".py")

    def test_the_names_of_files_and_folders(self):
        for path in paths_within(PACKAGE):
            with self.subTest(path=str(path)):
                self.assertEqual(name_faults(path.name if path.is_dir() else path.stem), [])

    def test_each_folder_has_an_init_file(self):
        for folder in [PACKAGE] + [path for path in paths_within(PACKAGE) if path.is_dir()]:
            with self.subTest(folder=str(folder)):
                self.assertTrue((folder / "__init__.py").is_file())

    def test_a_main_file_lies_at_the_top_alone(self):
        for path in paths_within(PACKAGE):
            if path.name == "__main__.py":
                self.assertEqual(path.parent, PACKAGE)

    def test_the_signs_in_the_files(self):
        for path in PACKAGE.rglob("*.py"):
            with self.subTest(path=str(path)):
                self.assertEqual(sign_faults(path.read_bytes()), [])

    def test_the_sizes_of_files_lines_and_functions(self):
        for path in PACKAGE.rglob("*.py"):
            with self.subTest(path=str(path)):
                self.assertEqual(size_faults(path.read_bytes().decode("utf-8")), [])


class TestFinders(unittest.TestCase):
    """The finders of faults above find what they are there for."""

    def test_names(self):
        for name in ["errors", "sizes", "combs", "a1_b", "__init__", "__main__"]:
            self.assertEqual(name_faults(name), [], name)
        barred = ["Combs", "a-b", "a.b", "1a", "_a", "", "test", "tests", "test_a", "conftest", "site"]
        barred += ["len", "filter", "format", "property", "valueerror", "enum", "typing", "mydataclasses"]
        for name in barred:
            self.assertNotEqual(name_faults(name), [], name)

    def test_signs(self):
        self.assertEqual(sign_faults(b"a = ' ~'\n"), [])
        for data in [b"\ta", b"a\r\n", b"a\x0c", b"\x7f", b"\x00", "\u00e9".encode("utf-8")]:
            self.assertNotEqual(sign_faults(data), [], data)

    def test_lines_and_files(self):
        self.assertEqual(size_faults("#" * 120 + "\n"), [])
        self.assertEqual(size_faults("#" * 121 + "\n"), ["a long line: 1"])
        self.assertEqual(size_faults("#\n" * 400), [])
        self.assertEqual(size_faults("#\n" * 401), ["a long file"])
        self.assertEqual(size_faults("#\n" * 400 + "#"), ["a long file"])

    def test_functions(self):
        self.assertEqual(size_faults("def f():\n" + "    pass\n" * 39), [])
        self.assertEqual(size_faults("def f():\n" + "    pass\n" * 40), ["a long function: f"])
        method = "class C:\n    def m(self):\n" + "        pass\n" * 40
        self.assertEqual(size_faults(method), ["a long function: m"])


if __name__ == "__main__":
    unittest.main()
