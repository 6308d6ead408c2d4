"""What of ../shared/LANGUAGE.md can be seen in the files of the package."""

import ast
import os
import unittest

FOLDER = os.path.join(os.path.dirname(os.path.dirname(os.path.abspath(__file__))), "placedanyhow")

BUILTINS = (
    "len range enumerate zip min max sum abs sorted reversed int str bool list tuple dict set "
    "isinstance ord repr any all divmod ValueError super"
).split()
METHODS = (
    "append clear copy count endswith extend find get index insert isalnum isalpha isdigit items "
    "join keys lower lstrip partition pop remove replace reverse rfind rstrip setdefault split "
    "splitlines startswith strip update upper values zfill"
).split()
# These are barred, or allowed only in forms that are not tested here: who needs one of the latter
# takes it out of the list and reads its rule.
BARRED_NODES = (
    ast.Global, ast.AsyncFunctionDef, ast.AsyncFor, ast.AsyncWith, ast.Await, ast.Set, ast.SetComp,
    ast.GeneratorExp, ast.Div, ast.Yield, ast.YieldFrom, ast.NamedExpr, ast.Starred, ast.Lambda,
    ast.Nonlocal, ast.With, ast.Match,
)
BARRED_WORDS = (
    "register mro elements open input law version_info attrgetter builtins compile dir eval exec "
    "exit gc getattr globals hasattr help id importlib locals os quit setattr type vars sys hash "
    "next iter map format bytes chr"
).split()


def package_files():
    return sorted(name for name in os.listdir(FOLDER) if name != "__pycache__")


def read(name):
    with open(os.path.join(FOLDER, name), encoding="utf-8") as file:
        return file.read()


def trees():
    return [(name, ast.parse(read(name))) for name in package_files()]


def is_plain(node, functions):
    """Whether the value of a module-level name is a literal, also with functions defined above."""
    if isinstance(node, ast.Constant):
        return True
    if isinstance(node, (ast.Tuple, ast.List)):
        return all(is_plain(part, functions) for part in node.elts)
    if isinstance(node, ast.Dict):
        return all(is_plain(part, functions) for part in node.keys + node.values)
    return isinstance(node, ast.Name) and node.id in functions


def defined_in(nodes):
    """A dict from the names of the functions and classes among nodes to their nodes."""
    return {node.name: node for node in nodes if isinstance(node, (ast.FunctionDef, ast.ClassDef))}


def assigned_to_self(function):
    """The attributes that a method assigns to its own object."""
    found = []
    for node in ast.walk(function):
        if isinstance(node, ast.Attribute) and isinstance(node.ctx, ast.Store) and getattr(node.value, "id", "") == "self":
            found.append(node.attr)
    return found


class LanguageTest(unittest.TestCase):
    def test_files(self):
        self.assertIn("__init__.py", package_files())
        for name in package_files():
            self.assertRegex(name, r"\A[a-z_][a-z0-9_]*\.py\Z")

    def test_characters_and_sizes(self):
        for name in package_files():
            text = read(name)
            self.assertTrue(all(c == "\n" or " " <= c <= "~" for c in text), name)
            self.assertLessEqual(text.count("\n"), 399, name)
            self.assertLessEqual(max(len(line) for line in text.split("\n")), 120, name)

    def test_functions_are_small(self):
        for name, tree in trees():
            for node in ast.walk(tree):
                if isinstance(node, ast.FunctionDef):
                    self.assertLessEqual(node.end_lineno - node.lineno + 1, 40, (name, node.name))
                    self.assertEqual(node.decorator_list, [], (name, node.name))

    def test_imports(self):
        imports = {}
        for name, tree in trees():
            imports[name] = []
            for node in ast.walk(tree):
                self.assertNotIsInstance(node, ast.Import, name)
                if isinstance(node, ast.ImportFrom):
                    self.assertIn(node, tree.body, name)
                    self.assertEqual(node.level, 0, name)
                    package, _, module = node.module.partition(".")
                    self.assertEqual(package, "placedanyhow", name)
                    defined = {n.name for n in ast.parse(read(module + ".py")).body if hasattr(n, "name")}
                    self.assertLessEqual({alias.name for alias in node.names}, defined, name)
                    imports[name].append(module + ".py")
        for name in imports:
            self.assertNotIn(name, self.reached(imports, imports[name]), name)

    def reached(self, imports, names):
        found = list(names)
        for name in found:
            found.extend(other for other in imports[name] if other not in found)
        return found

    def test_module_level(self):
        for name, tree in trees():
            bound, functions = [], []
            for index, node in enumerate(tree.body):
                if isinstance(node, ast.Expr):
                    self.assertEqual(index, 0, name)
                elif isinstance(node, ast.ImportFrom):
                    bound.extend(alias.name for alias in node.names)
                elif isinstance(node, ast.Assign):
                    self.assertEqual(len(node.targets), 1, name)
                    self.assertIsInstance(node.targets[0], ast.Name, name)
                    self.assertTrue(is_plain(node.value, functions), (name, node.lineno))
                    bound.append(node.targets[0].id)
                else:
                    self.assertIsInstance(node, (ast.FunctionDef, ast.ClassDef), name)
                    bound.append(node.name)
                    functions.append(node.name)
            self.assertEqual(len(bound), len(set(bound)), name)

    def test_nodes(self):
        for name, tree in trees():
            for node in ast.walk(tree):
                self.assertNotIsInstance(node, BARRED_NODES, (name, getattr(node, "lineno", 0)))
                if isinstance(node, ast.Constant):
                    self.assertNotIsInstance(node.value, (float, complex, bytes), name)
                    if isinstance(node.value, str):
                        self.assertNotIn("%", node.value, (name, node.lineno))
                if isinstance(node, ast.Compare):
                    for operator, right in zip(node.ops, node.comparators):
                        if isinstance(operator, (ast.Is, ast.IsNot)):
                            self.assertIn(getattr(right, "value", 0), (None, True, False), name)

    def test_errors_that_are_caught(self):
        """Only own errors are caught, each by its name."""
        own = set(defined_in(ast.parse(read("errors.py")).body))
        for name, tree in trees():
            for node in ast.walk(tree):
                if isinstance(node, ast.Try):
                    self.assertEqual(node.finalbody, [], (name, node.lineno))
                if isinstance(node, ast.ExceptHandler):
                    self.assertIn(getattr(node.type, "id", None), own, (name, node.lineno))
                if isinstance(node, ast.FunctionDef):
                    caught = [part.name for part in ast.walk(node) if isinstance(part, ast.ExceptHandler)]
                    self.assertEqual(len(caught), len(set(caught)), (name, node.lineno))

    def test_methods_and_attributes(self):
        """No name is a method and an attribute of one class, and none is that of a method of builtin values."""
        builtin = set(METHODS) | {"encode", "decode", "sort", "args", "format", "hex"}
        for name, tree in trees():
            for node in ast.walk(tree):
                if isinstance(node, ast.ClassDef):
                    methods = set(defined_in(node.body))
                    attributes = {field for part in defined_in(node.body).values() for field in assigned_to_self(part)}
                    self.assertEqual(methods & attributes, set(), (name, node.name))
                    self.assertEqual((methods | attributes) & builtin, set(), (name, node.name))

    def test_names(self):
        for name, tree in trees():
            top = {n.name for n in tree.body if isinstance(n, ast.ClassDef)}
            top |= {a.name for n in tree.body if isinstance(n, ast.ImportFrom) for a in n.names}
            for node in ast.walk(tree):
                stored = []
                if isinstance(node, ast.Name) and isinstance(node.ctx, ast.Store):
                    stored = [node.id]
                elif isinstance(node, ast.arg):
                    stored = [node.arg]
                elif isinstance(node, (ast.FunctionDef, ast.ClassDef)):
                    stored = [node.name]
                elif isinstance(node, ast.Attribute):
                    self.assertNotIn(node.attr, BARRED_WORDS, (name, node.lineno))
                for word in stored:
                    self.assertNotIn(word, BUILTINS + BARRED_WORDS, (name, word))
                    if not isinstance(node, ast.ClassDef):
                        self.assertNotIn(word, top, (name, node.lineno, word))

    def test_calls(self):
        methods = set(METHODS)
        for _, tree in trees():
            for node in ast.walk(tree):
                if isinstance(node, ast.ClassDef):
                    methods |= {part.name for part in node.body if isinstance(part, ast.FunctionDef)}
        for name, tree in trees():
            known = set(BUILTINS)
            for node in ast.walk(tree):
                if isinstance(node, (ast.FunctionDef, ast.ClassDef)):
                    known.add(node.name)
                if isinstance(node, ast.FunctionDef):
                    known |= {argument.arg for argument in node.args.args}
                if isinstance(node, ast.alias):
                    known.add(node.name)
                if isinstance(node, ast.Name) and isinstance(node.ctx, ast.Store):
                    known.add(node.id)
            for node in ast.walk(tree):
                if isinstance(node, ast.Call) and isinstance(node.func, ast.Name):
                    self.assertIn(node.func.id, known, (name, node.lineno))
                elif isinstance(node, ast.Call):
                    self.assertIsInstance(node.func, ast.Attribute, (name, node.lineno))
                    self.assertIn(node.func.attr, methods, (name, node.lineno))


INTERFACE = {
    "errors": ("PlacedError", "TextError", "RuleError", "PlanError", "CodeError", "CommandError"),
    "tokens": ("tokenize", "is_reserved"),
    "parsing": ("parse_program",),
    "writing": ("write_program", "write_expression"),
    "names": ("expand",),
    "words": ("value", "place"),
    "usage": ("touched", "check_usage", "threads_of"),
    "work": ("work", "measure", "prepare"),
    "states": ("initial", "ends"),
    "redexes": ("redexes", "perform", "event"),
    "meaning": ("run", "run_from", "steps"),
    "waits": ("waits", "chain", "explains"),
    "threads": ("threads",),
    "compiling": ("compile_thread",),
    "coding": ("encode", "decode"),
    "graph": ("check_network", "distances", "next_hops"),
    "placement": ("Plan", "make_plan", "spread"),
    "images": ("build_images", "read_image"),
    "links": ("Links",),
    "loader": ("packets", "Memory"),
    "workspaces": ("Workspace",),
    "homes": ("Home", "Homes"),
    "processor": ("Processor",),
    "machine": ("Machine",),
    "replay": ("follow", "explains"),
    "script": ("run_script",),
}

ARGUMENTS = {
    "tokenize": ["text"], "is_reserved": ["name"], "parse_program": ["text"],
    "write_program": ["program"], "write_expression": ["e"], "expand": ["program"],
    "value": ["e", "cells"], "place": ["target", "cells"], "touched": ["s"],
    "check_usage": ["core"], "threads_of": ["core"], "work": ["s"], "measure": ["state"],
    "prepare": ["text"], "initial": ["core"], "ends": ["state"],
    "redexes": ["core", "inputs", "state"], "perform": ["core", "inputs", "state", "redex"],
    "event": ["core", "inputs", "state", "redex"], "run": ["core", "inputs", "choices"],
    "run_from": ["core", "inputs", "state", "choices"], "steps": ["core", "inputs", "choices"],
    "waits": ["core", "state"], "chain": ["core", "state", "t"], "threads": ["core"],
    "waits.explains": ["core", "state", "threads", "end"],
    "replay.explains": ["core", "inputs", "events", "outputs", "told"],
    "follow": ["core", "inputs", "events"], "run_script": ["script"],
    "compile_thread": ["thread"], "encode": ["instruction"], "decode": ["words"],
    "check_network": ["processors", "links"], "distances": ["processors", "links", "goal"],
    "next_hops": ["processors", "links"], "make_plan": ["core", "network", "places", "homes"],
    "spread": ["many", "processors"], "build_images": ["core", "plan"], "read_image": ["words"],
    "packets": ["target", "image"],
}

# The arguments of the methods of each class, behind "self".
METHODS_OF = {
    "Links": {"__init__": ["delays"], "send": ["tick", "source", "goal", "message"], "due": ["tick"], "empty": []},
    "Memory": {"__init__": [], "load": ["first", "words", "total"]},
    "Workspace": {
        "__init__": ["number", "thread", "values"], "cell": ["number"], "store": ["number", "word"], "advance": [],
        "step": ["instruction"],
    },
    "Home": {"__init__": ["kind", "inputs"]},
    "Homes": {"__init__": ["rows", "log"], "handle": ["message"]},
    "Processor": {
        "__init__": ["at", "plan", "homes", "turn"], "receive": ["message"], "tick": [], "sent": [],
    },
    "Machine": {
        "__init__": ["core", "plan", "inputs"], "advance": [], "run": ["ticks"], "quiet": [], "outputs": [], "ends": [],
        "cells": [], "memory": ["at"],
    },
}
# The arguments that are passed by keyword, by class and method.
KEYWORDS_OF = {("Machine", "__init__"): ["delays", "turn"]}
FIELDS_OF = {
    "Plan": ["processors", "links", "threads", "homes", "hops"],
    "Memory": ["words"],
    "Workspace": ["number", "parent", "takes", "gives", "code", "cells", "stack", "at", "state"],
    "Home": ["kind", "outputs"],
    "Processor": ["work", "row"],
    "Machine": ["now", "log"],
}


class InterfaceTest(unittest.TestCase):
    def test_each_name_is_defined_in_its_file(self):
        for module, names in INTERFACE.items():
            defined = defined_in(ast.parse(read(module + ".py")).body)
            for name in names:
                self.assertIn(name, defined)
                if isinstance(defined[name], ast.FunctionDef):
                    arguments = [argument.arg for argument in defined[name].args.args]
                    expected = ARGUMENTS.get(f"{module}.{name}") or ARGUMENTS[name]
                    self.assertEqual(arguments, expected, name)

    def classes(self):
        """The nodes of the classes of the interface, by their names."""
        found = {}
        for module in INTERFACE:
            for name, node in defined_in(ast.parse(read(module + ".py")).body).items():
                if isinstance(node, ast.ClassDef):
                    found[name] = node
        return found

    def test_each_method_is_defined_in_its_class(self):
        for name, methods in METHODS_OF.items():
            defined = defined_in(self.classes()[name].body)
            for method, arguments in methods.items():
                taken = defined[method].args
                self.assertEqual([argument.arg for argument in taken.args], ["self"] + arguments, (name, method))
                self.assertEqual([argument.arg for argument in taken.kwonlyargs], KEYWORDS_OF.get((name, method), []))

    def test_each_field_is_set_when_an_object_is_created(self):
        for name, fields in FIELDS_OF.items():
            creation = defined_in(self.classes()[name].body)["__init__"]
            self.assertLessEqual(set(fields), set(assigned_to_self(creation)), name)


if __name__ == "__main__":
    unittest.main()
