"""The interface as the document lists it, and the rules of the language that a test can see."""

import ast
import inspect
import importlib
import pathlib
import re
import unittest

PACKAGE = pathlib.Path(__file__).resolve().parent.parent / "lastpasses"

FUNCTIONS = {
    "rows": {"is_row": "(value)", "ranks": "(row)", "signs": "(row, height)"},
    "passes": {"single_pass": "(row, kind)", "sitters": "(row, kind)", "after": "(row, word)"},
    "desks": {
        "desk": "(row, shorts, talls)", "departures": "(row, shorts, talls)", "split_word": "(word, size)",
    },
    "programs": {
        "is_program": "(value)", "count_passes": "(program)", "last_passes": "(program, *, count=400)",
        "largest_desk": "(program)", "run": "(row, program)",
    },
    "notation": {"format_program": "(program)", "parse_program": "(text)"},
    "equality": {
        "shortest": "(word, size)", "same": "(word, other, size)", "difference": "(word, other, size)",
        "is_constant": "(word, size)", "word_count": "(size)", "word_at": "(size, number)",
        "number_of": "(word, size)",
    },
    "kept": {"kept": "(row, shorts, talls)"},
    "finals": {
        "is_final": "(row)", "final_row": "(heights, word)", "final_word": "(row)", "place_counts": "(size, rank)",
    },
    "wishes": {"count_words": "(heights, wishes)", "first_word": "(heights, wishes)"},
    "reach": {
        "reachable": "(row, *, passes=None)", "word_to": "(row, other)", "mismatches": "(row, other)",
    },
    "origins": {"origins": "(row, kind)", "count_origins": "(row, kind, times)"},
    "observations": {
        "comparisons": "(record)", "find_order": "(records)", "count_orders": "(records)",
        "is_shorter": "(records, one, other)", "possible_kinds": "(pairs)",
    },
    "patterns": {"count_readings": "(row, pattern, other)", "first_reading": "(row, pattern, other)"},
    "chances": {"chance": "(row, share, steps, other)", "mean_index": "(row, share, steps, height)"},
    "hall": {"replay": "(people, log)"},
    "checker": {"check": "(claim, paper)"},
    "papers": {
        "path_paper": "(row, other)", "word_paper": "(word, other, size)", "order_paper": "(records)",
        "place_paper": "(heights, wishes)",
    },
}

# The methods of each class, by the file in which the class stands.
CLASSES = {
    "hall": {
        "Hall": {
            "__init__": "(self, people)", "run": "(self, program)", "enter": "(self, name, height)",
            "leave": "(self, name)", "do_all": "(self, deeds, *, watch=None)", "undo": "(self)", "names": "(self)",
            "heights": "(self)", "people": "(self)", "log": "(self)", "index_of": "(self, name)",
            "settled": "(self)", "__len__": "(self)", "__eq__": "(self, other)", "__str__": "(self)",
            "__repr__": "(self)",
        },
    },
    "console": {"Console": {"__init__": "(self, people)", "say": "(self, line)"}},
}

BARRED_WORDS = (
    "type typing typing_extensions enum Enum IntEnum StrEnum Flag IntFlag Generic Protocol ABC ABCMeta namedtuple "
    "NamedTuple TypedDict TYPE_CHECKING abstractmethod"
).split()

BARRED_NAMES = "register mro elements open input law version_info with_traceback add_note".split()

BUILTINS = (
    "len range enumerate zip min max sum abs sorted reversed int str bool bytes list tuple dict set frozenset "
    "isinstance ord repr any all divmod iter next Exception ValueError TypeError KeyError IndexError LookupError "
    "ZeroDivisionError ArithmeticError OverflowError RuntimeError NotImplementedError AttributeError "
    "StopIteration NotImplemented super property staticmethod classmethod"
).split()

BUILTIN_METHODS = {name for kind in (str, int, list, dict, set, bytes, tuple) for name in dir(kind)} - set(dir(object))

SPECIAL = re.compile(r"__[a-z]+__")


def files():
    return sorted(PACKAGE.rglob("*.py"))


def names_of(tree):
    """Every name that the file binds or reads, attributes included."""
    for node in ast.walk(tree):
        if isinstance(node, ast.Name):
            yield node.id
        elif isinstance(node, ast.Attribute):
            yield node.attr
        elif isinstance(node, ast.arg):
            yield node.arg
        elif isinstance(node, (ast.FunctionDef, ast.ClassDef)):
            yield node.name


class Interface(unittest.TestCase):
    def test_functions_stand_in_their_files_with_their_parameters(self):
        for module_name, functions in FUNCTIONS.items():
            module = importlib.import_module("lastpasses." + module_name)
            for name, parameters in functions.items():
                with self.subTest(module=module_name, name=name):
                    function = getattr(module, name)
                    self.assertTrue(inspect.isfunction(function))
                    self.assertEqual(function.__module__, module.__name__)
                    self.assertEqual(str(inspect.signature(function)), parameters)

    def test_classes_stand_in_their_files_and_define_their_methods_themselves(self):
        for module_name, classes in CLASSES.items():
            module = importlib.import_module("lastpasses." + module_name)
            for class_name, methods in classes.items():
                found = getattr(module, class_name)
                self.assertTrue(inspect.isclass(found))
                self.assertEqual(found.__module__, module.__name__)
                for name, parameters in methods.items():
                    with self.subTest(module=module_name, name=name):
                        self.assertIn(name, vars(found))
                        self.assertTrue(inspect.isfunction(vars(found)[name]))
                        self.assertEqual(str(inspect.signature(vars(found)[name])), parameters)


class Language(unittest.TestCase):
    def test_the_folder_contains_only_files_of_the_package(self):
        for path in PACKAGE.rglob("*"):
            if "__pycache__" not in path.parts:
                with self.subTest(path=path.name):
                    self.assertRegex(path.name, r"\A[a-z0-9_]+\.py\Z")

    def test_sizes_and_characters(self):
        for path in files():
            text = path.read_text(encoding="utf-8")
            with self.subTest(path=path.name):
                self.assertRegex(text, r"\A[ -~\n]*\Z")
                self.assertLessEqual(len(text.splitlines()), 399)
                self.assertLessEqual(max(len(line) for line in text.splitlines()), 120)
            for node in ast.walk(ast.parse(text)):
                if isinstance(node, ast.FunctionDef):
                    with self.subTest(path=path.name, function=node.name):
                        self.assertLessEqual(node.end_lineno - node.lineno + 1, 40)

    def test_barred_words(self):
        for path in files():
            words = set(re.findall(r"\w+", path.read_text(encoding="utf-8")))
            with self.subTest(path=path.name):
                self.assertEqual(words & set(BARRED_WORDS), set())

    def test_names(self):
        for path in files():
            for name in names_of(ast.parse(path.read_text(encoding="utf-8"))):
                with self.subTest(path=path.name, name=name):
                    self.assertNotIn(name, BARRED_NAMES)
                    self.assertTrue(SPECIAL.fullmatch(name) or not name.startswith("_"))

    def test_only_the_builtins_of_the_language(self):
        known = set(dir(__builtins__) if not isinstance(__builtins__, dict) else __builtins__)
        for path in files():
            tree = ast.parse(path.read_text(encoding="utf-8"))
            used = {node.id for node in ast.walk(tree) if isinstance(node, ast.Name)}
            with self.subTest(path=path.name):
                self.assertEqual((used & known) - set(BUILTINS), set())

    def test_no_name_has_two_meanings(self):
        known = set(dir(__builtins__) if not isinstance(__builtins__, dict) else __builtins__)
        for path in files():
            tree = ast.parse(path.read_text(encoding="utf-8"))
            nodes = list(ast.walk(tree))
            imported = [alias.name for node in nodes if isinstance(node, ast.ImportFrom) for alias in node.names]
            top = imported + sorted(self.defined_names(tree))
            assigned = {node.id for node in nodes if isinstance(node, ast.Name) and isinstance(node.ctx, ast.Store)}
            parameters = {node.arg for node in nodes if isinstance(node, ast.arg)}
            with self.subTest(path=path.name):
                self.assertEqual(len(set(top)), len(top))
                self.assertEqual((assigned | parameters) & set(imported), set())
                self.assertEqual((assigned | parameters | set(top)) & known, set())

    def test_no_two_files_import_from_each_other(self):
        imports = {}
        for path in files():
            tree = ast.parse(path.read_text(encoding="utf-8"))
            modules = [node.module for node in ast.walk(tree) if isinstance(node, ast.ImportFrom)]
            imports[path.stem] = {module.split(".", 1)[1] for module in modules}
        while imports:
            free = [name for name in imports if not imports[name] & set(imports)]
            self.assertNotEqual(free, [], imports)
            for name in free:
                del imports[name]

    def test_imports_name_the_file_that_defines_the_name(self):
        for path in files():
            for node in ast.walk(ast.parse(path.read_text(encoding="utf-8"))):
                self.assertNotIsInstance(node, ast.Import)
                if isinstance(node, ast.ImportFrom):
                    with self.subTest(path=path.name, module=node.module):
                        self.assertEqual(node.level, 0)
                        self.assertTrue(node.module.startswith("lastpasses."))
                        source = PACKAGE / (node.module.split(".", 1)[1] + ".py")
                        defined = self.defined_names(ast.parse(source.read_text(encoding="utf-8")))
                        self.assertEqual({alias.name for alias in node.names} - defined, set())

    def test_no_name_is_a_method_and_an_attribute(self):
        methods, attributes = set(), set()
        for path in files():
            for node in ast.walk(ast.parse(path.read_text(encoding="utf-8"))):
                if isinstance(node, ast.ClassDef):
                    methods |= {part.name for part in node.body if isinstance(part, ast.FunctionDef)}
                elif isinstance(node, ast.Attribute) and isinstance(node.ctx, ast.Store):
                    attributes.add(node.attr)
        self.assertEqual(methods & attributes, set())
        self.assertEqual(attributes & BUILTIN_METHODS - {"index", "count"}, set())
        self.assertEqual({name for name in methods if not SPECIAL.fullmatch(name)} & BUILTIN_METHODS, set())

    def test_generator_expressions(self):
        """Where a class has a length and compares itself, the builtins take lists."""
        for path in files():
            nodes = list(ast.walk(ast.parse(path.read_text(encoding="utf-8"))))
            with self.subTest(path=path.name):
                self.assertFalse([node for node in nodes if isinstance(node, (ast.GeneratorExp, ast.Yield))])

    def defined_names(self, tree):
        names = set()
        for node in tree.body:
            if isinstance(node, (ast.FunctionDef, ast.ClassDef)):
                names.add(node.name)
            elif isinstance(node, ast.Assign):
                names.add(node.targets[0].id)
        return names


if __name__ == "__main__":
    unittest.main()
