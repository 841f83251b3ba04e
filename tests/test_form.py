"""The form of the package: names and arguments of the interface, and rules of the Python subset.

Of the rules only those are checked that a few lines of code can see for certain.
"""

import ast
import builtins
import importlib
import inspect
import pathlib
import unittest

PACKAGE = pathlib.Path(__file__).resolve().parent.parent / "ledgerproof"

INTERFACE = {
    "sectors": {
        "profile_of": "(model, names)",
        "names_of": "(model, profile)",
        "belongs": "(model, profile, sector)",
        "profiles": "(model, sector)",
        "distinguish": "(model, first, second)",
        "exactly": "(model, profile)",
    },
    "models": {
        "premises_of": "(model, claim)",
        "mentioned": "(model, claim)",
        "changed": "(model, script)",
        "conserved": "(model)",
    },
    "tokens": {
        "split_text": "(text)",
        "filled": "(texts, values)",
    },
    "reader": {
        "read_model": "(text)",
        "read_script": "(model, text)",
        "read_claim": "(model, text)",
        "read_constraint": "(model, text)",
        "read_sector": "(model, text)",
    },
    "printer": {
        "show_sector": "(sector)",
        "show_constraint": "(constraint)",
        "show_claim": "(claim)",
        "show_script": "(script)",
        "show_model": "(model)",
    },
    "ledgers": {
        "problem": "(model, ledger)",
        "balances": "(model, ledger)",
        "value": "(model, ledger, constraint)",
        "satisfies": "(model, ledger, constraint)",
        "refutes": "(model, ledger, claim)",
        "minimized": "(model, ledger, claim)",
    },
    "journals": {
        "Journal": "(model, *, participants=(), transactions=())",
    },
    "obligations": {
        "obligations": "(model, claim)",
        "unit_transactions": "(model, profile)",
        "system_of": "(model, claim, number)",
        "parts": "(model, claim)",
        "aggregated": "(model, claim)",
        "contributions": "(model, constraint)",
    },
    "flows": {
        "flows": "(model, ledger, *, apart=None)",
        "made": "(model, profile, amounts)",
        "paired": "(model, ledger, *, apart=None)",
    },
    "systems": {
        "multiplier_defect": "(system, multipliers)",
        "amount_defect": "(system, amounts)",
        "slacks": "(system, multipliers)",
        "totals": "(system, amounts)",
    },
    "dictionaries": {
        "start": "(system)",
        "choice": "(dictionary)",
        "pivot": "(dictionary, variable, column)",
        "path": "(dictionary)",
        "solve": "(dictionary)",
        "multipliers": "(dictionary)",
        "amounts": "(dictionary)",
        "wrong_variable": "(system, dictionary)",
        "evidence": "(system, dictionary)",
    },
    "elimination": {
        "first_inequalities": "(system)",
        "wrong_inequality": "(system, inequalities)",
        "eliminated": "(inequalities, number)",
        "levels": "(system)",
        "by_elimination": "(system)",
    },
    "certificates": {
        "first_defect": "(model, claim, certificate)",
        "used": "(model, claim, certificate)",
    },
    "verdicts": {
        "decide": "(model, claim)",
        "statuses_of": "(model)",
        "confirmed": "(model, claim, verdict)",
    },
    "bounds": {
        "raised": "(claim, constraint, fraction)",
        "bound": "(model, claim, constraint)",
    },
    "cores": {
        "core": "(model, name)",
        "needed": "(model, claim)",
        "causes": "(model, claim)",
        "idle": "(model, claim)",
    },
    "desks": {
        "Desk": "(model)",
    },
    "questions": {
        "read_question": "(model, texts, values=())",
        "show_question": "(question)",
    },
    "answers": {
        "answer": "(model, question)",
        "journal_answer": "(journal, question)",
    },
}

METHODS_OF = {
    ("journals", "Journal"): {
        "add": "(self, participants, transactions)",
        "enter": "(self, *names)",
        "post": "(self, name, payer, payee, *, amount=1)",
        "history": "(self, account)",
        "by_type": "(self)",
        "value": "(self, constraint)",
        "satisfies": "(self, constraint)",
        "refutes": "(self, claim)",
        "minimized": "(self, claim)",
        "clone": "(self)",
        "__len__": "(self)",
        "__iter__": "(self)",
    },
    ("desks", "Desk"): {
        "apply": "(self, text)",
        "undo": "(self, *, steps=1)",
        "redo": "(self, *, steps=1)",
        "tried": "(self, first, second)",
        "statuses": "(self)",
        "source": "(self)",
        "clone": "(self)",
    },
}

# Class methods and properties of the interface, which stand in the class as objects of these kinds.
OTHERS_OF = {
    ("journals", "Journal"): {"model": property, "ledger": property},
    ("desks", "Desk"): {"opened": classmethod, "model": property, "undoable": property, "redoable": property},
}

LIBRARY = {"heapq", "math", "itertools", "collections"}

BUILTINS = set((
    "len range enumerate zip min max sum abs sorted reversed int str bool list tuple dict set isinstance ord repr "
    "any all divmod pow getattr hasattr setattr iter next type map super property staticmethod classmethod "
    "Exception ValueError TypeError KeyError IndexError LookupError ZeroDivisionError ArithmeticError OverflowError "
    "RuntimeError NotImplementedError StopIteration NotImplemented"
).split())

METHODS = set((
    "append clear copy count endswith extend find get index insert isalnum isalpha isdigit islower isspace isupper "
    "items join keys ljust lower lstrip partition pop remove replace reverse rfind rjust rpartition rsplit rstrip "
    "setdefault split splitlines startswith strip update upper values zfill bit_length add discard sort format "
    "title capitalize swapcase casefold center expandtabs removeprefix removesuffix rindex isascii isdecimal "
    "isnumeric istitle isidentifier isprintable"
).split())

NOT_ALLOWED = (
    ast.AsyncFor, ast.AsyncFunctionDef, ast.AsyncWith, ast.Await, ast.Global, ast.Import, ast.Div, ast.MatMult,
)

DECORATORS = {"property", "staticmethod", "classmethod"}


def files():
    return sorted(PACKAGE.glob("*.py"))


def trees():
    return [(path.name, ast.parse(path.read_text(encoding="ascii"))) for path in files()]


def nodes():
    return [(name, node) for name, tree in trees() for node in ast.walk(tree)]


def bound_names(tree):
    """All names that a file binds anywhere."""
    found = set()
    for node in ast.walk(tree):
        if isinstance(node, ast.Name) and not isinstance(node.ctx, ast.Load):
            found.add(node.id)
        elif isinstance(node, ast.arg):
            found.add(node.arg)
        elif isinstance(node, (ast.FunctionDef, ast.ClassDef, ast.alias, ast.MatchAs, ast.MatchStar)):
            found.add(node.name)
    return found


class InterfaceTest(unittest.TestCase):
    def test_functions_stand_in_their_files_with_their_arguments(self):
        for name, functions in INTERFACE.items():
            module = importlib.import_module("ledgerproof." + name)
            for function, arguments in functions.items():
                with self.subTest(module=name, function=function):
                    found = getattr(module, function)
                    self.assertEqual(found.__module__, module.__name__)
                    self.assertEqual(str(inspect.signature(found)), arguments)

    def test_methods_stand_in_their_classes_with_their_arguments(self):
        for (name, owner), methods in METHODS_OF.items():
            found = vars(getattr(importlib.import_module("ledgerproof." + name), owner))
            for method, arguments in methods.items():
                with self.subTest(owner=owner, method=method):
                    self.assertEqual(str(inspect.signature(found[method])), arguments)

    def test_class_methods_and_properties_stand_in_their_classes(self):
        for (name, owner), others in OTHERS_OF.items():
            found = vars(getattr(importlib.import_module("ledgerproof." + name), owner))
            for other, kind in others.items():
                with self.subTest(owner=owner, other=other):
                    self.assertIsInstance(found[other], kind)
        opened = importlib.import_module("ledgerproof.desks").Desk.opened
        self.assertEqual(str(inspect.signature(opened)), "(text)")


class FilesTest(unittest.TestCase):
    def test_the_folder_contains_python_files_only(self):
        others = [path.name for path in PACKAGE.iterdir() if path.suffix != ".py" and path.name != "__pycache__"]
        self.assertEqual(others, [])
        self.assertTrue((PACKAGE / "__init__.py").exists())

    def test_size_and_characters(self):
        for path in files():
            lines = path.read_text(encoding="ascii").split("\n")
            self.assertLessEqual(len(lines) - 1, 399, path.name)
            for number, line in enumerate(lines, 1):
                self.assertLessEqual(len(line), 120, (path.name, number))
                self.assertTrue(all(" " <= character <= "~" for character in line), (path.name, number))

    def test_functions_have_at_most_40_lines(self):
        for name, node in nodes():
            if isinstance(node, ast.FunctionDef):
                self.assertLessEqual(node.end_lineno - node.lineno + 1, 40, (name, node.name))


class SubsetTest(unittest.TestCase):
    def test_imports(self):
        for name, node in nodes():
            if isinstance(node, ast.ImportFrom):
                self.assertEqual(node.level, 0, name)
                self.assertIn(node.module.split(".")[0], LIBRARY | {"ledgerproof"}, name)
                self.assertNotIn("*", [alias.name for alias in node.names], name)

    def test_module_level(self):
        for name, tree in trees():
            for node in tree.body:
                allowed = (ast.ImportFrom, ast.FunctionDef, ast.ClassDef, ast.Assign)
                docstring = isinstance(node, ast.Expr) and node is tree.body[0]
                self.assertTrue(docstring or isinstance(node, allowed), (name, node.lineno))

    def test_nothing_that_is_not_allowed(self):
        for name, node in nodes():
            self.assertNotIsInstance(node, NOT_ALLOWED, (name, getattr(node, "lineno", None)))
            if isinstance(node, ast.Constant):
                self.assertNotIsInstance(node.value, (float, complex), (name, node.lineno))
                if isinstance(node.value, str):
                    self.assertNotIn("%", node.value, (name, node.lineno))
            if isinstance(node, (ast.FunctionDef, ast.ClassDef)):
                for decorator in node.decorator_list:
                    self.assertIn(ast.unparse(decorator).split(".")[-1], DECORATORS | {"setter"}, (name, node.name))

    def test_names_of_builtins(self):
        everything = {name for name in dir(builtins) if not name.startswith("_")}
        for name, tree in trees():
            own = bound_names(tree)
            self.assertEqual(own & everything, set(), name)
            for node in ast.walk(tree):
                if isinstance(node, ast.Name) and node.id not in own and not node.id.startswith("__"):
                    self.assertIn(node.id, BUILTINS, (name, node.lineno))

    def test_called_methods(self):
        own = set().union(*[bound_names(tree) for _, tree in trees()])
        for name, node in nodes():
            if isinstance(node, ast.Call) and isinstance(node.func, ast.Attribute):
                self.assertIn(node.func.attr, METHODS | own | {"__init__"}, (name, node.lineno))

    def test_is_stands_beside_none_and_truth_values(self):
        for name, node in nodes():
            if isinstance(node, ast.Compare) and isinstance(node.ops[0], (ast.Is, ast.IsNot)):
                self.assertIn(ast.unparse(node.comparators[0]), ("None", "True", "False"), (name, node.lineno))


if __name__ == "__main__":
    unittest.main()
