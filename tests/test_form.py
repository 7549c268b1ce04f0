"""The form of the code: the rules of the Python subset that can be seen in the text.

The tests hold the package to somewhat less than the subset allows: no generators, lambdas or matches, and handlers of
own errors alone.
"""

import ast
import builtins
import pathlib
import re
import unittest

import hiddenforks

FOLDER = pathlib.Path(hiddenforks.__file__).parent
FILES = sorted(FOLDER.rglob("*.py"))
LIBRARY = {"heapq": {"heappush", "heappop", "heapify", "heapreplace", "heappushpop"},
           "math": {"gcd", "lcm", "isqrt", "comb", "perm", "factorial"},
           "itertools": {"product", "combinations", "permutations"}}
NODES = {"Module", "Expr", "Constant", "ImportFrom", "alias", "FunctionDef", "ClassDef", "arguments", "arg", "Return",
         "Assign", "AugAssign", "For", "While", "If", "Raise", "Break", "Continue", "Pass", "BoolOp", "And", "Or",
         "BinOp", "Add", "Sub", "Mult", "FloorDiv", "Mod", "UnaryOp", "Not", "USub", "Compare", "Eq", "NotEq", "Lt",
         "LtE", "Gt", "GtE", "Is", "IsNot", "In", "NotIn", "Call", "keyword", "Attribute", "Subscript", "Slice", "Name",
         "List", "Tuple", "Dict", "ListComp", "DictComp", "comprehension", "IfExp", "JoinedStr", "FormattedValue",
         "Load", "Store", "Delete", "Del", "Starred", "Try", "ExceptHandler"}
BUILTINS = set("""len range enumerate zip min max sum abs sorted reversed int str bool list tuple dict set isinstance
    ord repr any all divmod Exception ValueError TypeError KeyError IndexError LookupError ZeroDivisionError
    ArithmeticError OverflowError RuntimeError NotImplementedError AttributeError""".split())
METHODS = set("""append clear copy count endswith extend find get index insert isalnum isalpha isdigit islower isspace
    isupper items join keys ljust lower lstrip partition pop remove replace reverse rfind rjust rpartition rsplit rstrip
    setdefault split splitlines startswith strip update upper values zfill bit_length isdecimal isascii""".split())
CHANGING = {"append", "clear", "extend", "insert", "pop", "remove", "reverse", "setdefault", "update", "add", "discard"}
ON_THE_SPOT = {"zip", "enumerate", "reversed", "range", "items", "keys", "values"}
TAKING = {"list", "tuple", "dict", "sorted", "sum", "any", "all", "enumerate", "zip", "min", "max"}
DUNDERS = {"__init__", "__eq__", "__repr__", "__str__", "__len__"}
NOT_NAMES = set("""register mro elements open input law version_info with_traceback add_note attrgetter breakpoint builtins
    compile copyright credits delattr dir eval exec exit gc getattr globals hasattr help id importlib license locals
    methodcaller os quit setattr super type vars sys""".split())
NOT_WORDS = re.compile(r"\b(type|typing|typing_extensions|enum|Enum|IntEnum|StrEnum|Flag|IntFlag|Generic|Protocol|ABC|ABCMeta|"
                       r"namedtuple|NamedTuple|TypedDict|TYPE_CHECKING|abstractmethod)\b|dataclass|overload|contextmanager")
NOT_STARTS = ("_wall", "_pe_", "_dcw_", "_enum_", "_cm_", "_twin_re_", "_lay_", "_law_", "_stub_", "_sre", "_WallAttr",
              "_cold", "_tuplegetter", "_outside", "_record", "_written_out", "_member_names", "law_", "__")


def module_name(path):
    parts = ["hiddenforks"] + list(path.relative_to(FOLDER).with_suffix("").parts)
    return ".".join(part for part in parts if part != "__init__")


def own_names(tree):
    return [node.name for node in ast.walk(tree) if isinstance(node, (ast.FunctionDef, ast.ClassDef))]


def local_names(tree):
    stored = [node.id for node in ast.walk(tree) if isinstance(node, ast.Name) and isinstance(node.ctx, ast.Store)]
    return stored + [node.arg for node in ast.walk(tree) if isinstance(node, ast.arg)]


def called(node):
    """The bare name, or the name of the method, that is called."""
    if isinstance(node, ast.Call):
        return getattr(node.func, "id", None) or getattr(node.func, "attr", None)
    return None


def docstrings(tree):
    return [node.body[0].value for node in ast.walk(tree)
            if isinstance(node, (ast.Module, ast.ClassDef, ast.FunctionDef)) and ast.get_docstring(node) is not None]


class Form(unittest.TestCase):

    def setUp(self):
        self.texts = {path: path.read_bytes().decode("ascii") for path in FILES}
        self.trees = {path: ast.parse(text) for path, text in self.texts.items()}

    def nodes(self, *kinds):
        for path, tree in self.trees.items():
            for node in ast.walk(tree):
                if isinstance(node, kinds):
                    yield f"{path.name}:{getattr(node, 'lineno', 0)}", node

    def test_files(self):
        for path in FOLDER.rglob("*"):
            if "__pycache__" not in path.parts:
                self.assertTrue(path.suffix == ".py" and re.fullmatch(r"[a-z0-9_]+\.py", path.name), path)
                taken = hasattr(builtins, path.stem) and path.stem != "__init__"
                self.assertFalse(taken or path.stem.startswith(("test", "law_")), path)
        self.assertIn(FOLDER / "__init__.py", FILES)

    def test_characters_and_sizes(self):
        for path, text in self.texts.items():
            self.assertFalse(set(text) - set(map(chr, range(32, 127))) - {"\n"}, path)
            lines = text.split("\n")
            self.assertLessEqual(len(lines) - 1, 399, path)
            self.assertLessEqual(max(map(len, lines)), 120, path)
        for where, node in self.nodes(ast.FunctionDef):
            self.assertLessEqual(node.end_lineno - node.lineno + 1, 40, where)

    def test_only_plain_parts_of_the_language(self):
        for where, node in self.nodes(ast.AST):
            self.assertIn(type(node).__name__, NODES, where)
        for where, node in self.nodes(ast.FunctionDef, ast.ClassDef):
            self.assertEqual(node.decorator_list, [], where)

    def test_imports(self):
        uses = {}
        for path, tree in self.trees.items():
            name, uses[module_name(path)] = module_name(path), []
            body = [node for node in tree.body if not isinstance(node, ast.Expr)]
            head = [node for node in body if isinstance(node, ast.ImportFrom)]
            self.assertEqual(body[:len(head)], head, path)
            for node in head:
                names = [alias.name for alias in node.names]
                self.assertFalse([alias for alias in node.names if alias.asname], path)
                if node.module in LIBRARY:
                    self.assertLessEqual(set(names), LIBRARY[node.module], path)
                    continue
                uses[name].append(node.module)
                there = [one for one in FILES if module_name(one) == node.module]
                self.assertEqual(len(there), 1, (path, node.module))
                defined = [part.name for part in self.trees[there[0]].body if hasattr(part, "name")]
                defined += [target.id for part in self.trees[there[0]].body if isinstance(part, ast.Assign)
                            for target in part.targets]
                self.assertLessEqual(set(names), set(defined), path)
            used = {node.id for node in ast.walk(tree) if isinstance(node, ast.Name)}
            self.assertLessEqual({alias.name for node in head for alias in node.names}, used, path)
        done = set()
        while uses:
            free = [name for name, others in uses.items() if set(others) <= done]
            self.assertTrue(free, f"these import from each other: {sorted(uses)}")
            done |= set(free)
            uses = {name: others for name, others in uses.items() if name not in free}

    def test_module_level(self):
        for path, tree in self.trees.items():
            for node in tree.body:
                if isinstance(node, ast.Assign):
                    self.assertTrue(len(node.targets) == 1 and isinstance(node.targets[0], ast.Name), path)
                    self.check_plain(node, [one.name for one in tree.body if isinstance(one, ast.FunctionDef)
                                            and one.lineno < node.lineno])
                elif isinstance(node, ast.Expr):
                    self.assertIsInstance(node.value.value, str, path)
                else:
                    self.assertIsInstance(node, (ast.ImportFrom, ast.FunctionDef, ast.ClassDef), path)

    def check_plain(self, node, functions):
        """A plain value, or a dict from strings to functions that are defined above."""
        if isinstance(node.value, ast.Dict) and isinstance(node.value.values[0], ast.Name):
            self.assertEqual({type(key) for key in node.value.keys}, {ast.Constant})
            self.assertLessEqual({value.id for value in node.value.values}, set(functions))
        else:
            ast.literal_eval(node.value)

    def test_handlers_are_of_own_errors(self):
        own = {node.name for _, node in self.nodes(ast.ClassDef)}
        for where, node in self.nodes(ast.Try):
            self.assertEqual((node.orelse, node.finalbody), ([], []), where)
            for handler in node.handlers:
                self.assertIn(handler.type.id, own, where)
                used = [one for row in handler.body for one in ast.walk(row) if isinstance(one, ast.Attribute)]
                self.assertTrue(handler.name is None or [one for one in used if one.value.id == handler.name], where)

    def test_each_name_is_bound_once_and_means_one_thing(self):
        for path, tree in self.trees.items():
            bound = [alias.name for node in tree.body if isinstance(node, ast.ImportFrom) for alias in node.names]
            classes = [node.name for node in tree.body if isinstance(node, ast.ClassDef)]
            top = bound + [node.name for node in tree.body if hasattr(node, "name")]
            top += [target.id for node in tree.body if isinstance(node, ast.Assign) for target in node.targets]
            self.assertEqual(len(top), len(set(top)), path)
            inner = [name for node in tree.body if isinstance(node, (ast.FunctionDef, ast.ClassDef))
                     for name in local_names(node)]
            self.assertFalse(set(inner) & set(top), path)
            self.assertFalse(set(inner) & set(bound + classes), path)
            for name in top + inner:
                self.assertFalse(hasattr(builtins, name), (path, name))
            for node in ast.walk(tree):
                if isinstance(node, ast.ClassDef):
                    methods = [part.name for part in node.body if isinstance(part, ast.FunctionDef)]
                    self.assertEqual(len(methods), len(set(methods)), path)

    def test_names(self):
        for path, tree in self.trees.items():
            names = own_names(tree) + local_names(tree)
            names += [node.attr for node in ast.walk(tree) if isinstance(node, ast.Attribute)]
            for name in names:
                if name not in DUNDERS:
                    self.assertTrue(re.fullmatch(r"_|_?[A-Za-z][A-Za-z0-9_]*", name), (path, name))
                    self.assertFalse(name.startswith(NOT_STARTS) or name in NOT_NAMES, (path, name))
            read = [node.id for node in ast.walk(tree) if isinstance(node, ast.Name) and isinstance(node.ctx, ast.Load)]
            self.assertNotIn("_", read, path)

    def test_builtins_and_methods(self):
        methods = {part.name for _, node in self.nodes(ast.ClassDef) for part in node.body if hasattr(part, "name")}
        for where, node in self.nodes(ast.Name):
            if hasattr(builtins, node.id):
                self.assertIn(node.id, BUILTINS, where)
        for where, node in self.nodes(ast.Call):
            if isinstance(node.func, ast.Attribute):
                self.assertIn(node.func.attr, METHODS | methods, where)
            else:
                self.assertIsInstance(node.func, ast.Name, where)

    def test_ranges_and_their_kin_are_iterated_on_the_spot(self):
        for path, tree in self.trees.items():
            fine = []
            for node in ast.walk(tree):
                if isinstance(node, (ast.For, ast.comprehension)):
                    fine.append(node.iter)
                if called(node) in TAKING or called(node) == "join":
                    fine += node.args
                if isinstance(node, ast.Compare) and isinstance(node.ops[0], (ast.In, ast.NotIn)):
                    fine += node.comparators
            for node in ast.walk(tree):
                if called(node) in ON_THE_SPOT:
                    self.assertTrue([one for one in fine if one is node], f"{path.name}:{node.lineno}")

    def test_sets_stand_in_sorted_or_len(self):
        for path, tree in self.trees.items():
            fine = [arg for node in ast.walk(tree) if called(node) in ("sorted", "len") for arg in node.args]
            for node in ast.walk(tree):
                if called(node) == "set":
                    self.assertTrue([one for one in fine if one is node], f"{path.name}:{node.lineno}")

    def test_nothing_is_changed_that_is_iterated(self):
        for where, loop in self.nodes(ast.For):
            over = {node.id for node in ast.walk(loop.iter) if isinstance(node, ast.Name)}
            over |= {node.attr for node in ast.walk(loop.iter) if isinstance(node, ast.Attribute)}
            for node in [part for row in loop.body for part in ast.walk(row)]:
                changed = None
                if called(node) in CHANGING and isinstance(node.func, ast.Attribute):
                    changed = node.func.value
                elif isinstance(node, ast.Subscript) and not isinstance(node.ctx, ast.Load):
                    changed = node.value
                elif isinstance(node, ast.AugAssign):
                    changed = node.target
                name = getattr(changed, "id", None) or getattr(changed, "attr", None)
                self.assertNotIn(name, over, where)

    def test_numbers_and_strings(self):
        for path, tree in self.trees.items():
            for node in ast.walk(tree):
                if isinstance(node, ast.Constant):
                    self.assertIn(type(node.value), (int, str, bool, type(None)), path)
                    if isinstance(node.value, str):
                        self.assertNotIn("%", node.value, path)
                        self.assertFalse(node.value.startswith("__") and node.value.endswith("__"), path)
            spoken = docstrings(tree)
            for node in ast.walk(tree):
                words = [getattr(node, key, None) for key in ("id", "attr", "name", "arg")]
                if isinstance(node, ast.Constant) and not [one for one in spoken if one is node]:
                    words.append(node.value)
                for word in words:
                    self.assertFalse(isinstance(word, str) and NOT_WORDS.search(word), (path, word))

    def test_is_stands_with_none_true_and_false(self):
        for where, node in self.nodes(ast.Compare):
            if isinstance(node.ops[0], (ast.Is, ast.IsNot)):
                self.assertIsInstance(node.comparators[0], ast.Constant, where)

    def test_default_values_are_plain_and_errors_are_made_on_the_spot(self):
        for where, node in self.nodes(ast.FunctionDef):
            for value in node.args.defaults + [one for one in node.args.kw_defaults if one is not None]:
                ast.literal_eval(value)
        for where, node in self.nodes(ast.Raise):
            self.assertIsInstance(node.exc, ast.Call, where)
            self.assertIsNone(node.cause, where)


if __name__ == "__main__":
    unittest.main()
