"""The form of the package: its files, the interface, and the rules of the language that a file shows."""

import ast
import builtins
import doctest
import importlib
import inspect
import pathlib
import re
import unittest

from calltakers import errors, hands, patterns, plans, standins, strict

TOP = pathlib.Path(__file__).resolve().parent.parent
PACKAGE = TOP / "calltakers"
ORDER = ["errors", "values", "patterns", "cases", "plans", "assigning", "firstfit", "rules", "states", "watching",
         "certainty", "alike", "hands", "standins", "strict", "places", "texts", "console"]
FUNCTIONS = {
    "values": {"is_value": "(thing)", "is_call": "(thing)", "kind_of": "(value)", "same": "(one, other)",
               "compare": "(one, other)", "call": "(path, *arguments, **named)"},
    "cases": {"example": "(one, *, outside=())", "common": "(one, other)", "classes": "(patterns)"},
    "plans": {"is_assignment": "(plan, record, thing)"},
    "assigning": {"assigned": "(plan, record)", "is_crowded": "(plan, record, thing)",
                  "is_needy": "(plan, record, thing)", "may_take": "(plan, record, index)"},
    "firstfit": {"first_fit": "(plan, record)", "wrong_pair": "(plan)", "trap": "(plan)", "righted": "(plan)"},
    "rules": {"conflict": "(plan)", "narrowest": "(plan, record)", "spared": "(plan)"},
    "states": {"start": "(plan)", "steps": "(plan, state, call)", "ends": "(plan, state)",
               "reached": "(plan, record)", "ordered": "(plan, record)", "is_refusal": "(plan, record, thing)"},
    "certainty": {"could_take": "(plan, record, index)", "answers": "(plan, record)", "certain_at": "(plan, record)"},
    "alike": {"contained": "(plan, other)", "is_containment": "(plan, other, thing)", "needless": "(plan)"},
    "hands": {"merged": "(hands, order)", "orders": "(hands, *, links=())",
              "some_kept": "(plan, hands, *, links=())", "is_none": "(plan, hands, thing, *, links=())",
              "all_kept": "(plan, hands, *, links=())", "is_all": "(plan, hands, thing, *, links=())"},
    "standins": {"outcomes": "(rules, record)"},
    "texts": {"value_text": "(value)", "call_text": "(call)", "pattern_text": "(pattern)", "plan_text": "(plan)",
              "read_value": "(text)", "read_call": "(text)", "read_pattern": "(text)", "read_calls": "(text)",
              "read_plan": "(text)"}}
OF_VALUES = {"told": property, "accepts": "(self, value)"}
OF_CALLS = {"told": property, "accepts": "(self, call)", "__eq__": "(self, other)"}
# For each class how it is made, and what stands in its own body.
CLASSES = {
    "patterns": {"Pattern": ("()", OF_VALUES | {"of": "(told)", "__and__": "(self, other)", "__or__": "(self, other)",
                                                "__invert__": "(self)", "__eq__": "(self, other)"}),
                 "Anything": ("()", OF_VALUES), "Exactly": ("(value)", OF_VALUES), "Kind": ("(kind)", OF_VALUES),
                 "Between": ("(low, high)", OF_VALUES), "Begins": ("(text)", OF_VALUES),
                 "Items": ("(*patterns)", OF_VALUES), "Both": ("(*patterns)", OF_VALUES),
                 "Either": ("(*patterns)", OF_VALUES), "Not": ("(pattern)", OF_VALUES),
                 "Calls": ("(path, *patterns, **named)", OF_CALLS | {"of": "(told)"}), "AnyCall": ("()", OF_CALLS)},
    "plans": {"Expectation": ("(name, pattern, *, least=1, most=1, after=(), answer=None)", {"has_slack": property}),
              "Plan": ("(*expectations)", {
                  "names": "(self)", "is_free": property, "told": property, "__eq__": "(self, other)", "of": "(told)",
                  "expectation": "(self, name)", "takers": "(self, call)", "classes": "(self)"})},
    "rules": {"Opponent": ("(plan)", {"waiting": "(self)", "given": "(self, name)", "record": "(self)",
                                      "takings": "(self)", "evidence": "(self)"})},
    "watching": {"Watcher": ("(plan)", {"see": "(self, call)", "verdict": property, "record": "(self)",
                                        "rest": "(self)", "twin": "(self)"})},
    "standins": {"Standin": ("(name='it')", {
                     "child": "(self, name)", "receive": "(self, *arguments, **named)",
                     "will": "(self, pattern, *results, again=False)", "log": "(self)", "record": "(self)",
                     "below": "(self)", "reset": "(self)"}),
                 "Fault": ("(word)", {"__eq__": "(self, other)"})},
    "strict": {"Strict": ("(plan, *, name='it')", {
        "receive": "(self, *arguments, **named)", "will": "(self, pattern, *results, again=False)", "reset": "(self)",
        "done": "(self)", "verdict": property, "checked": "(self, work)"})},
    "places": {"Places": ("(contents=())", {
                   "read": "(self, name)", "has": "(self, name)", "names": "(self)", "write": "(self, name, value)",
                   "remove": "(self, name)", "replaced": "(self, name, *values)",
                   "run": "(self, work, *replacements)"}),
               "Replacement": ("(places, name, shown)", {"begin": "(self)", "end": "(self)", "in_force": property})},
    "console": {"Console": ("()", {"reply": "(self, line)"})}}
BUILTINS = """len range enumerate zip min max sum abs sorted reversed int str bool bytes list tuple dict set frozenset
    isinstance ord repr any all divmod pow getattr hasattr setattr iter next map type super property staticmethod
    classmethod Exception ValueError TypeError KeyError IndexError LookupError ZeroDivisionError ArithmeticError
    OverflowError RuntimeError NotImplementedError AttributeError StopIteration NotImplemented""".split()
DUNDERS = """__init__ __eq__ __repr__ __str__ __len__ __enter__ __exit__ __call__ __iter__ __lt__ __le__ __gt__ __ge__
    __ne__ __and__ __or__ __xor__ __invert__ __neg__ __bool__ __contains__ __getitem__ __setitem__""".split()
BARRED = """register mro elements open input law version_info with_traceback add_note attrgetter breakpoint builtins
    compile copyright credits delattr dir eval exec exit gc globals help id importlib license locals methodcaller os
    quit vars sys __name__ _wall _cold _tuplegetter _outside _record _written_out _member_names""".split()
WORDS = re.compile(r"\b(typing|typing_extensions|enum|Enum|IntEnum|StrEnum|Flag|IntFlag|Generic|Protocol|ABC|ABCMeta|"
                   r"namedtuple|NamedTuple|TypedDict|TYPE_CHECKING|abstractmethod)\b|dataclass|overload|contextmanager")
# An interactive session, such as doctest's, adds a builtin "_".
TAKEN = set(dir(builtins)) - {"_"}
OUTSIDE = (ast.AsyncFunctionDef, ast.AsyncFor, ast.AsyncWith, ast.Await, ast.Import)
LISTS_ONLY = ("any", "all", "min", "max", "sum", "sorted")


def trees():
    return [(path, ast.parse(path.read_text())) for path in sorted(PACKAGE.glob("*.py"))]


def names_of(node):
    """The names that a node of a tree gives to something or uses for an attribute."""
    if isinstance(node, ast.Name):
        return [node.id]
    if isinstance(node, ast.Attribute):
        return [node.attr]
    if isinstance(node, (ast.FunctionDef, ast.ClassDef)):
        return [node.name]
    if isinstance(node, (ast.arg, ast.keyword)):
        return [node.arg] if node.arg else []
    return [node.name] if isinstance(node, ast.ExceptHandler) and node.name else []


def docstrings_of(tree):
    found = []
    for node in ast.walk(tree):
        if isinstance(node, (ast.Module, ast.ClassDef, ast.FunctionDef)) and ast.get_docstring(node):
            found.append(node.body[0].value)
    return found


class Interface(unittest.TestCase):

    def test_functions_stand_in_their_file(self):
        for file, functions in FUNCTIONS.items():
            module = importlib.import_module(f"calltakers.{file}")
            for name, arguments in functions.items():
                function = vars(module)[name]
                self.assertEqual(function.__module__, module.__name__, name)
                self.assertEqual(str(inspect.signature(function)), arguments, name)

    def test_classes_stand_in_their_file(self):
        for file, classes in CLASSES.items():
            module = importlib.import_module(f"calltakers.{file}")
            for name, (arguments, _) in classes.items():
                self.assertEqual(vars(module)[name].__module__, module.__name__, name)
                self.assertEqual(str(inspect.signature(vars(module)[name])), arguments, name)

    def test_methods_stand_in_the_class_itself(self):
        for file, classes in CLASSES.items():
            module = importlib.import_module(f"calltakers.{file}")
            for name, (_, methods) in classes.items():
                for method, arguments in methods.items():
                    own = vars(vars(module)[name])[method]
                    if arguments is property:
                        self.assertIsInstance(own, property, (name, method))
                    else:
                        function = own.__func__ if isinstance(own, staticmethod) else own
                        self.assertEqual(str(inspect.signature(function)), arguments, (name, method))

    def test_the_package_itself_defines_nothing(self):
        self.assertEqual(ast.parse((PACKAGE / "__init__.py").read_text()).body, [])

    def test_a_file_uses_only_files_before_it(self):
        for path, tree in trees():
            for node in ast.walk(tree):
                if isinstance(node, ast.ImportFrom) and node.module.startswith("calltakers."):
                    used = node.module.removeprefix("calltakers.")
                    self.assertLess(ORDER.index(used), ORDER.index(path.stem), path.name)

    def test_attributes_are_set_when_the_object_is_created(self):
        self.assertEqual(vars(errors.BadCall("it")), {"path": "it"})
        made = plans.Expectation("a", patterns.AnyCall())
        self.assertLessEqual({"name", "pattern", "least", "most", "after", "answer"}, set(vars(made)))
        self.assertIn("path", vars(standins.Standin()))
        self.assertIn("word", vars(standins.Fault("a")))
        self.assertIn("path", vars(strict.Strict(plans.Plan(made))))

    def test_all_files_are_there(self):
        self.assertEqual({path.stem for path in PACKAGE.glob("*.py")}, set(ORDER) | {"__init__"})

    def test_orders_is_a_generator(self):
        self.assertTrue(inspect.isgeneratorfunction(hands.orders))

    def test_the_readme_says_what_happens(self):
        failed, tried = doctest.testfile(str(TOP / "README.md"), module_relative=False)
        self.assertEqual(failed, 0)
        self.assertGreater(tried, 5)


class Files(unittest.TestCase):

    def test_nothing_but_files_of_the_language(self):
        for path in PACKAGE.iterdir():
            if path.name != "__pycache__":
                self.assertRegex(path.name, r"^[a-z_]+\.py$")
                self.assertIn(path.stem, ORDER + ["__init__"])

    def test_sizes_and_characters(self):
        for path, tree in trees():
            text = path.read_text()
            lines = text.split("\n")
            self.assertLessEqual(len(lines), 399, path.name)
            self.assertLessEqual(max(map(len, lines)), 120, path.name)
            self.assertEqual([c for c in text if c != "\n" and not " " <= c <= "~"], [], path.name)
            for node in ast.walk(tree):
                if isinstance(node, ast.FunctionDef):
                    self.assertLessEqual(node.end_lineno - node.lineno + 1, 40, (path.name, node.name))


class Language(unittest.TestCase):

    def test_module_level(self):
        for path, tree in trees():
            for at, node in enumerate(tree.body):
                docstring = at == 0 and isinstance(node, ast.Expr) and isinstance(node.value, ast.Constant)
                allowed = isinstance(node, (ast.ImportFrom, ast.FunctionDef, ast.ClassDef, ast.Assign))
                self.assertTrue(docstring or allowed, (path.name, node.lineno))

    def test_imports_come_from_the_package_or_the_few_of_the_library(self):
        for path, tree in trees():
            for node in ast.walk(tree):
                if isinstance(node, ast.ImportFrom):
                    self.assertIn(node, tree.body, path.name)
                    self.assertEqual(node.level, 0, path.name)
                    self.assertTrue(node.module.startswith("calltakers.")
                                    or node.module in ("heapq", "math", "itertools", "collections"), path.name)
                    for alias in node.names:
                        self.assertNotEqual(alias.name, "*")
                        self.assertIsNone(alias.asname)

    def test_each_name_is_bound_once(self):
        for path, tree in trees():
            bound = []
            for node in tree.body:
                if isinstance(node, ast.ImportFrom):
                    bound.extend([alias.name for alias in node.names])
                elif isinstance(node, (ast.FunctionDef, ast.ClassDef)):
                    bound.append(node.name)
                elif isinstance(node, ast.Assign):
                    bound.append(node.targets[0].id)
            self.assertEqual(len(bound), len(set(bound)), path.name)
            self.assertEqual([name for name in bound if name in TAKEN], [], path.name)

    def test_no_parameter_or_variable_hides_an_import_a_class_or_a_builtin(self):
        for path, tree in trees():
            hidden = set(TAKEN)
            for node in tree.body:
                if isinstance(node, ast.ImportFrom):
                    hidden |= {alias.name for alias in node.names}
                elif isinstance(node, ast.ClassDef):
                    hidden.add(node.name)
            for node in ast.walk(tree):
                if isinstance(node, ast.arg):
                    self.assertNotIn(node.arg, hidden, path.name)
                if isinstance(node, ast.Name) and isinstance(node.ctx, ast.Store):
                    self.assertNotIn(node.id, hidden, path.name)

    def test_names(self):
        for path, tree in trees():
            for node in ast.walk(tree):
                for name in names_of(node):
                    self.assertNotIn(name, BARRED, path.name)
                    self.assertRegex(name, r"^_?[A-Za-z][A-Za-z0-9_]*$|^_$|^__[a-z]+__$", path.name)
                    if name.startswith("__"):
                        self.assertIn(name, DUNDERS, path.name)

    def test_builtins(self):
        for path, tree in trees():
            for node in ast.walk(tree):
                if isinstance(node, ast.Name) and node.id in TAKEN:
                    self.assertIn(node.id, BUILTINS, path.name)

    def test_statements_and_expressions(self):
        for path, tree in trees():
            for node in ast.walk(tree):
                self.assertNotIsInstance(node, OUTSIDE, (path.name, getattr(node, "lineno", 0)))
                self.assertFalse(isinstance(node, ast.Constant) and isinstance(node.value, (float, complex)), path.name)
                self.assertFalse(isinstance(node, ast.Div), path.name)
                if isinstance(node, ast.AnnAssign):
                    self.assertIsNotNone(node.value, path.name)

    def test_decorators(self):
        for path, tree in trees():
            for node in ast.walk(tree):
                if isinstance(node, ast.ClassDef):
                    self.assertEqual(node.decorator_list, [], (path.name, node.name))
                if isinstance(node, ast.FunctionDef) and node.decorator_list:
                    words = [ast.unparse(decorator) for decorator in node.decorator_list]
                    self.assertEqual(len(words), 1, (path.name, node.name))
                    self.assertIn(words[0], ("property", "staticmethod", "classmethod"), (path.name, node.name))

    def test_any_and_its_kin_take_no_generator_expression(self):
        for path, tree in trees():
            for node in ast.walk(tree):
                if isinstance(node, ast.Call) and isinstance(node.func, ast.Name) and node.func.id in LISTS_ONLY:
                    for argument in node.args:
                        self.assertNotIsInstance(argument, ast.GeneratorExp, (path.name, node.lineno))

    def test_strings(self):
        for path, tree in trees():
            documents = docstrings_of(tree)
            for node in ast.walk(tree):
                if isinstance(node, ast.Constant) and isinstance(node.value, str) and node not in documents:
                    self.assertNotIn("%", node.value, path.name)
                    self.assertNotRegex(node.value, r"^__.*__$|\._$|\.__$", path.name)
                    self.assertNotRegex(node.value, r"\btype\b", path.name)
                    self.assertIsNone(WORDS.search(node.value), path.name)

    def test_words(self):
        for path, tree in trees():
            for node in ast.walk(tree):
                for name in names_of(node):
                    self.assertIsNone(WORDS.search(name), (path.name, name))

    def test_raise_creates_its_error(self):
        for path, tree in trees():
            for node in ast.walk(tree):
                if isinstance(node, ast.Raise) and node.exc:
                    self.assertIsInstance(node.exc, ast.Call, (path.name, node.lineno))
                    self.assertIsInstance(node.exc.func, ast.Name, (path.name, node.lineno))

    def test_everything_has_a_docstring_but_the_special_methods(self):
        for path, tree in trees():
            for node in ast.walk(tree):
                if isinstance(node, ast.ClassDef) or isinstance(node, ast.FunctionDef) and node.name not in DUNDERS:
                    self.assertTrue(ast.get_docstring(node), (path.name, node.name))


if __name__ == "__main__":
    unittest.main()
