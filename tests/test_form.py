"""The form of the package's files: a part of the rules of ../shared/LANGUAGE.md.

The list of allowed statements and expressions is narrower than the rules: it holds what
the package uses. Whoever needs more reads the rule first, and adds it then.
"""

import ast
import builtins
import inspect
import importlib
import pathlib
import re
import unittest

FOLDER = pathlib.Path(__file__).resolve().parent.parent / "coverterms"
FILES = sorted(FOLDER.glob("*.py"))

# L6, L7
NODES = """
Module Expr ImportFrom alias FunctionDef arguments arg ClassDef Assign AugAssign Return If For
While Raise Break Continue Pass BoolOp And Or BinOp Add Sub Mult FloorDiv Mod UnaryOp Not USub
IfExp Compare Eq NotEq Lt LtE Gt GtE Is IsNot In NotIn Call Constant Name Load Store Attribute
Subscript Slice List Tuple Dict ListComp DictComp SetComp comprehension keyword Lambda
JoinedStr FormattedValue
""".split()
# L8, without those that have conditions of their own
BUILTINS = """
len range enumerate zip min max sum abs sorted reversed int str bool list tuple dict set
isinstance ord repr any all divmod ValueError
""".split()
# L2 The library, as far as it is used: called by its bare name, in functions
LIBRARY = {"math": ["gcd", "lcm"]}
# L25, the first list
METHODS = """
append clear copy count endswith extend find get index insert isalnum isalpha isdigit islower
isspace isupper items join keys ljust lower lstrip partition pop remove replace reverse rfind
rjust rpartition rsplit rstrip setdefault split splitlines startswith strip update upper values
zfill bit_length
""".split()
# L17
WORDS = """
register mro elements open input law version_info attrgetter breakpoint builtins compile
copyright credits delattr dir eval exec exit gc getattr globals hasattr help id importlib
license locals methodcaller os quit setattr super type vars sys typing enum Generic Protocol
ABC namedtuple dataclass overload
""".split()
INTERFACE = {
    "parts": {
        "is_term": "candidate", "is_part": "candidate", "payers": "part",
        "with_terms": "part terms",
    },
    "days": {
        "new_state": "part", "is_state": "part candidate", "events": "part state",
        "asked": "part state kind", "next_state": "part state event",
    },
    "courses": {
        "is_course": "part candidate", "state_after": "part course",
        "payments": "part course", "cost": "part course",
    },
    "reaching": {
        "all_states": "part", "course_to": "part state", "never_asked": "part",
        "sole_payer": "part kind",
    },
    "gaps": {
        "can_be_left": "part kind", "leaving_course": "part kind",
        "is_safe_set": "part kind candidate", "safe_set": "part kind",
    },
    "keeping": {
        "longest_free": "part", "surely_free": "part", "is_round": "part candidate",
        "is_free_round": "part candidate", "free_round": "part",
    },
    "extremes": {
        "greatest_cost": "part many", "least_cost": "part many",
        "costliest_course": "part many", "cheapest_course": "part many",
    },
    "means": {
        "mean_of": "part candidate", "greatest_mean": "part", "least_mean": "part",
    },
    "comparing": {
        "never_dearer": "one other", "parting_course": "one other", "as_dear": "one other",
        "greatest_difference": "one other", "idle_terms": "part", "idle_kinds": "part",
    },
    "choosing": {
        "sure_cost": "part many", "price_of_order": "part many",
        "best_choice": "part state kind many", "wrong_firsts": "part many",
    },
    "mending": {
        "least_days": "part number kind", "fewest_added": "part kind offers",
    },
    "formats": {
        "format_part": "part", "parse_part": "text", "format_course": "part course",
        "parse_course": "part text",
    },
    "naive": {
        "all_courses": "part many", "naive_parting": "one other many", "naive_sure": "part many",
    },
    "chances": {
        "is_weights": "part candidate", "chance_of": "part weights course",
        "chance_free": "part weights many", "mean_cost": "part weights many",
        "chance_left": "part weights kind many", "cheaper_on_average": "one other weights many",
    },
    "stocks": {
        "greatest_with": "part many faults", "fewest_faults": "part many",
        "faults_for": "part many cost", "are_goods": "candidate",
        "greatest_of_all": "goods many faults", "worst_shares": "goods many faults",
    },
    "refusals": {
        "reasons": "part state number kind", "uncovered": "part state",
        "closing": "part state", "days_open": "part state kind",
    },
    "audits": {
        "is_record": "part candidate", "record_of": "part course", "is_allowed": "part record",
        "bill": "part record", "first_wrong": "part record", "first_off": "part record",
        "fewest_changes": "part record", "mended": "part record", "least_bill": "part course",
        "best_record": "part course", "lost": "part record",
    },
}
CLASSES = {
    "workshop": {
        "Workshop": {
            "__init__": "part", "state": "", "events": "", "record": "", "bill": "", "quiet": "",
            "fault": "kind", "ask": "kind number", "buy": "kind", "undo": "", "redo": "",
            "copy": "", "__eq__": "other", "__len__": "",
        },
    },
    "depot": {
        "Depot": {
            "__init__": "", "add": "name part", "remove": "name", "state": "name",
            "bill": "name", "names": "", "day": "faults", "days": "", "bills": "", "owed": "",
            "save": "name", "editions": "", "load": "name", "dearer": "name", "undo": "",
            "redo": "", "copy": "", "__eq__": "other", "__len__": "",
        },
    },
}


def trees():
    return [(path, ast.parse(path.read_text())) for path in FILES]


def bound(tree):
    """Return the names of parameters and local variables."""
    names = [node.arg for node in ast.walk(tree) if isinstance(node, ast.arg)]
    for function in ast.walk(tree):
        if isinstance(function, ast.FunctionDef):
            names += [
                node.id for node in ast.walk(function)
                if isinstance(node, ast.Name) and isinstance(node.ctx, ast.Store)
            ]
    return names


def defined(tree):
    """Return the names that a file defines at module level, imports left out."""
    names = []
    for node in tree.body:
        if isinstance(node, (ast.FunctionDef, ast.ClassDef)):
            names.append(node.name)
        if isinstance(node, ast.Assign):
            names += [target.id for target in node.targets]
    return names


def classes():
    """Return the classes of all files that have methods."""
    found = [node for path, tree in trees() for node in tree.body if isinstance(node, ast.ClassDef)]
    return [node for node in found if methods(node)]


def methods(node):
    """Return the methods of a class."""
    return [child for child in node.body if isinstance(child, ast.FunctionDef)]


def attributes(node):
    """Return the names of the attributes that a class assigns."""
    return [
        child.attr for child in ast.walk(node)
        if isinstance(child, ast.Attribute) and isinstance(child.ctx, ast.Store)
    ]


def imported(tree):
    return [alias.name for node in tree.body if isinstance(node, ast.ImportFrom)
            for alias in node.names]


class Form(unittest.TestCase):
    def test_the_folder(self):
        for path in FOLDER.iterdir():
            if path.name != "__pycache__":
                self.assertRegex(path.name, r"^[a-z_][a-z0-9_]*\.py$")
        self.assertTrue((FOLDER / "__init__.py").is_file())

    def test_sizes_and_characters(self):
        for path in FILES:
            text = path.read_bytes().decode("ascii")
            self.assertIsNone(re.search(r"[^ -~\n]", text), path.name)
            lines = text.splitlines()
            self.assertLessEqual(len(lines), 399, path.name)
            self.assertLessEqual(max(map(len, lines)), 120, path.name)
        for path, tree in trees():
            for node in ast.walk(tree):
                if isinstance(node, ast.FunctionDef):
                    self.assertLessEqual(node.end_lineno - node.lineno + 1, 40, node.name)

    def test_statements_and_expressions(self):
        for path, tree in trees():
            for node in ast.walk(tree):
                place = f"{path.name}:{getattr(node, 'lineno', 0)}"
                self.assertIn(node.__class__.__name__, NODES, place)
                if isinstance(node, ast.FunctionDef):
                    self.assertEqual(node.decorator_list, [], place)
                if isinstance(node, ast.Constant):
                    self.assertNotIsInstance(node.value, (float, complex, bytes), place)
                if isinstance(node, ast.FormattedValue):
                    self.assertIsInstance(node.value, ast.Name, place)
                    self.assertEqual((node.conversion, node.format_spec), (-1, None), place)

    def test_module_level(self):
        allowed = (ast.Expr, ast.ImportFrom, ast.FunctionDef, ast.ClassDef, ast.Assign)
        for path, tree in trees():
            for node in tree.body:
                self.assertIsInstance(node, allowed, path.name)
                if isinstance(node, ast.Expr):
                    self.assertIsInstance(node.value, ast.Constant, path.name)
                if isinstance(node, ast.Assign):
                    ast.literal_eval(node.value)

    def test_imports(self):
        graph = {}
        for path, tree in trees():
            graph[path.stem] = []
            for node in ast.walk(tree):
                if isinstance(node, ast.ImportFrom) and node.module in LIBRARY:
                    for alias in node.names:
                        self.assertIn(alias.name, LIBRARY[node.module])
                        self.assertIsNone(alias.asname)
                elif isinstance(node, ast.ImportFrom):
                    self.assertEqual(node.level, 0)
                    package, name = node.module.split(".")
                    self.assertEqual(package, "coverterms")
                    graph[path.stem].append(name)
                    there = defined(ast.parse((FOLDER / f"{name}.py").read_text()))
                    for alias in node.names:
                        self.assertIsNone(alias.asname)
                        self.assertIn(alias.name, there)
        while graph:
            free = [name for name in graph if not set(graph[name]) & set(graph)]
            self.assertNotEqual(free, [], f"a circle among {sorted(graph)}")
            graph = {name: graph[name] for name in graph if name not in free}

    def test_names(self):
        for path, tree in trees():
            top = defined(tree) + imported(tree)
            self.assertEqual(len(top), len(set(top)), path.name)
            locals_here = bound(tree)
            for name in top + locals_here:
                self.assertNotIn(name, dir(builtins), path.name)
                self.assertNotIn(name, WORDS, path.name)
                self.assertRegex(name, r"^(_|_?[A-Za-z][A-Za-z0-9_]*)$", path.name)
            for name in locals_here:
                self.assertNotIn(name, imported(tree), path.name)

    def test_classes(self):
        taken = [name for kind in (str, int, list, dict, set, bytes, tuple) for name in dir(kind)]
        for node in classes():
            names = [method.name for method in methods(node)]
            self.assertEqual(len(names), len(set(names)), node.name)
            self.assertEqual(set(names) & set(attributes(node)), set(), node.name)
            for name in names + attributes(node):
                self.assertNotIn(name, WORDS, node.name)
                if name.startswith("__"):
                    self.assertIn(name, ["__init__", "__eq__", "__len__"], node.name)
                elif name not in ("add", "remove", "copy"):
                    self.assertNotIn(name, taken, node.name)
                    self.assertRegex(name, r"^_?[a-z][a-z_]*$", node.name)
                    self.assertNotRegex(name, r"^_(wall|pe_|dcw_|enum_|cm_|twin_re_|lay_|law_|stub_"
                                              r"|sre|cold|tuplegetter|outside|record|written_out"
                                              r"|member_names)", node.name)
            for child in node.body:
                # A docstring, or a method
                self.assertIsInstance(child, (ast.Expr, ast.FunctionDef), node.name)

    def test_equality_and_length_change_nothing(self):
        for node in classes():
            for method in methods(node):
                if method.name in ("__eq__", "__len__"):
                    self.assertIsInstance(method.body[-1], ast.Return)
                    for child in ast.walk(method):
                        self.assertNotIsInstance(child, (ast.Assign, ast.AugAssign, ast.Delete))
                        if isinstance(child, ast.Call):
                            self.assertIn(child.func.id, ["isinstance", "len"])
                if method.name == "__len__":
                    self.assertEqual(len(method.body), 1)
                    self.assertEqual(method.body[0].value.func.id, "len")

    def test_no_set_is_stored(self):
        # A class has a method called add, so that no set may have it (L24).
        for path, tree in trees():
            for node in ast.walk(tree):
                if isinstance(node, ast.Assign):
                    value = node.value
                    self.assertNotIsInstance(value, (ast.Set, ast.SetComp), path.name)
                    if isinstance(value, ast.Call) and isinstance(value.func, ast.Name):
                        self.assertNotEqual(value.func.id, "set", path.name)

    def test_builtins_and_methods(self):
        own = [method.name for node in classes() for method in methods(node)]
        own += [name for node in classes() for name in attributes(node)]
        for path, tree in trees():
            known = defined(tree) + imported(tree) + bound(tree) + BUILTINS
            for node in ast.walk(tree):
                if isinstance(node, ast.Name) and isinstance(node.ctx, ast.Load):
                    self.assertIn(node.id, known, path.name)
                if isinstance(node, ast.Attribute):
                    self.assertIn(node.attr, METHODS + own, path.name)

    def test_is_stands_beside_none_true_and_false(self):
        for path, tree in trees():
            for node in ast.walk(tree):
                if isinstance(node, ast.Compare):
                    for sign, side in zip(node.ops, node.comparators):
                        if isinstance(sign, (ast.Is, ast.IsNot)):
                            self.assertIsInstance(side, ast.Constant, path.name)

    def test_no_remainder_sign_in_strings(self):
        for path, tree in trees():
            for node in ast.walk(tree):
                if isinstance(node, ast.Constant) and isinstance(node.value, str):
                    self.assertNotIn("%", node.value, path.name)


class Interface(unittest.TestCase):
    def test_names_and_arguments(self):
        for name, functions in INTERFACE.items():
            module = importlib.import_module(f"coverterms.{name}")
            for function, parameters in functions.items():
                found = getattr(module, function)
                self.assertEqual(found.__module__, module.__name__)
                self.assertEqual(list(inspect.signature(found).parameters), parameters.split())

    def test_methods(self):
        for name, found in CLASSES.items():
            module = importlib.import_module(f"coverterms.{name}")
            for word, wanted in found.items():
                cls = getattr(module, word)
                self.assertEqual(cls.__module__, module.__name__)
                self.assertEqual(cls.__bases__, (object,))
                for method, parameters in wanted.items():
                    signature = inspect.signature(vars(cls)[method])
                    self.assertEqual(list(signature.parameters), ["self"] + parameters.split())
