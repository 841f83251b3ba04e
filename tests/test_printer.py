"""[46], [47] and the interface's heading `ledgerproof/printer.py`."""

import itertools
import random
import unittest

import things
from ledgerproof.models import changed
from ledgerproof.printer import show_claim, show_constraint, show_model, show_script, show_sector
from ledgerproof.reader import read_claim, read_constraint, read_model, read_script, read_sector
from ledgerproof.tokens import split_text
from printed import MODEL, check_examples

EXAMPLES = """
>>> from ledgerproof.printer import show_claim, show_constraint, show_model, show_script, show_sector
>>> show_sector(("and", ("or", ("all",), ("sector", "home")), ("not", ("not", ("sector", "firm")))))
'(all or home) and not (not firm)'
>>> show_constraint(("sum", ((-2, "cash", ("or", ("sector", "home"), ("sector", "firm"))), (1, "debt", ("not", ("sector", "home")))), "="))
'-2 cash of (home or firm) + debt of not home = 0'
>>> show_claim(balanced)
'if debt of all = 0 then 2 cash of home - cash of all >= 0'
>>> show_script((fee, ("drop", "wage")))
'type fee: home [-3 cash, debt] to firm [2 cash, -debt];\\ndrop wage;'
>>> show_model(richer)
'sectors home, firm;\\naccounts cash, debt;\\ntype wage: firm [-cash] to home [cash];\\nassume solvent: each firm: cash >= 0;'
"""

ALL = ("all",)
NONE = ("none",)
A, B, C = [("sector", name) for name in "abc"]
FEE = ("type", "fee", ("sector", "home"), (("cash", -3), ("debt", 1)), ("sector", "firm"), (("cash", 2), ("debt", -1)))
SOLVENT = ("each", ("sector", "firm"), ((1, "cash"),), ">=")
BALANCED = (
    (("sum", ((1, "debt", ALL),), "="),),
    ("sum", ((2, "cash", ("sector", "home")), (-1, "cash", ALL)), ">="),
)
ABC = (("a", "b", "c"), ("w", "x", "y", "z"), (), (), ())


def depth_of(text):
    """How many parentheses are open at once."""
    counts = itertools.accumulate({"(": 1, ")": -1}.get(character, 0) for character in text)
    return max(counts, default=0)


class PrintedTest(unittest.TestCase):
    def test_examples_of_the_interface(self):
        names = {"model": MODEL, "balanced": BALANCED, "fee": FEE, "richer": changed(MODEL, (("assume", "solvent", SOLVENT),))}
        check_examples(self, EXAMPLES, names)


class SectorTest(unittest.TestCase):
    def check(self, sector, text):
        self.assertEqual(show_sector(sector), text)
        self.assertEqual(read_sector(ABC, text), sector)

    def test_atoms(self):
        self.check(ALL, "all")
        self.check(NONE, "none")
        self.check(A, "a")

    def test_names_like_the_words_of_tuples(self):
        self.assertEqual(show_sector(("sector", "sector")), "sector")
        self.assertEqual(show_sector(("not", ("sector", "sum"))), "not sum")

    def test_not(self):
        self.check(("not", A), "not a")
        self.check(("not", ALL), "not all")
        self.check(("not", NONE), "not none")
        self.check(("not", ("not", A)), "not (not a)")
        self.check(("not", ("not", ("not", A))), "not (not (not a))")
        self.check(("not", ("and", A, B)), "not (a and b)")
        self.check(("not", ("or", A, B)), "not (a or b)")

    def test_and(self):
        self.check(("and", A, B), "a and b")
        self.check(("and", ("and", A, B), C), "a and b and c")
        self.check(("and", A, ("and", B, C)), "a and (b and c)")
        self.check(("and", ("or", A, B), C), "(a or b) and c")
        self.check(("and", A, ("or", B, C)), "a and (b or c)")
        self.check(("and", ("not", A), ("not", B)), "not a and not b")
        self.check(("and", ("or", A, B), ("or", B, C)), "(a or b) and (b or c)")
        self.check(("and", ("and", A, B), ("and", B, C)), "a and b and (b and c)")

    def test_or(self):
        self.check(("or", A, B), "a or b")
        self.check(("or", ("or", A, B), C), "a or b or c")
        self.check(("or", A, ("or", B, C)), "a or (b or c)")
        self.check(("or", ("and", A, B), C), "a and b or c")
        self.check(("or", A, ("and", B, C)), "a or b and c")
        self.check(("or", ("not", A), ("not", B)), "not a or not b")
        self.check(("or", ("and", A, B), ("and", B, C)), "a and b or b and c")

    def test_six_parentheses(self):
        nested = A
        for _ in range(7):
            nested = ("not", nested)
        self.check(nested, "not (not (not (not (not (not (not a))))))")

    def test_every_pair_of_operators_is_read_as_it_was(self):
        operators = (
            lambda x, y: ("not", x), lambda x, y: ("and", x, y), lambda x, y: ("or", x, y),
            lambda x, y: ("and", y, x), lambda x, y: ("or", y, x),
        )
        for outer, middle, inner in itertools.product(operators, repeat=3):
            sector = outer(middle(inner(A, B), C), NONE)
            self.check(sector, show_sector(sector))

    def test_no_parentheses_can_be_left_out(self):
        source = random.Random(46)
        for _ in range(200):
            sector = things.sector(source, ("a", "b", "c"))
            text = show_sector(sector)
            for begin, end in pairs(text):
                shorter = text[:begin] + text[begin + 1:end] + text[end + 1:]
                try:
                    found = read_sector(ABC, shorter)
                except ValueError:
                    continue
                self.assertNotEqual(found, sector, text)


def pairs(text):
    """The places of the parentheses that belong together."""
    opened = []
    for place, character in enumerate(text):
        if character == "(":
            opened.append(place)
        elif character == ")":
            yield opened.pop(), place


class ConstraintTest(unittest.TestCase):
    def check(self, constraint, text):
        self.assertEqual(show_constraint(constraint), text)
        self.assertEqual(read_constraint(ABC, text), constraint)

    def test_relations(self):
        self.check(("sum", ((1, "x", A),), ">="), "x of a >= 0")
        self.check(("sum", ((1, "x", A),), "="), "x of a = 0")
        self.check(("each", A, ((1, "x"),), ">="), "each a: x >= 0")
        self.check(("each", A, ((1, "x"),), "="), "each a: x = 0")

    def test_numbers_of_the_first_term(self):
        for number, shown in ((1, "x"), (-1, "-x"), (2, "2 x"), (-2, "-2 x"), (9999, "9999 x"), (-9999, "-9999 x")):
            self.check(("sum", ((number, "x", A),), "="), shown + " of a = 0")
            self.check(("each", A, ((number, "x"),), "="), "each a: " + shown + " = 0")

    def test_numbers_of_later_terms(self):
        for number, shown in ((1, "+ x"), (-1, "- x"), (2, "+ 2 x"), (-2, "- 2 x"), (9999, "+ 9999 x"), (-9999, "- 9999 x")):
            self.check(("sum", ((1, "y", B), (number, "x", A)), "="), "y of b " + shown + " of a = 0")
            self.check(("each", A, ((-3, "y"), (number, "x"), (number, "z")), ">="), f"each a: -3 y {shown} {shown.replace('x', 'z')} >= 0")

    def test_sectors_behind_of(self):
        for sector, shown in (
            (ALL, "all"), (NONE, "none"), (A, "a"), (("not", A), "not a"), (("not", ("not", A)), "not (not a)"),
            (("and", A, B), "(a and b)"), (("or", A, B), "(a or b)"), (("not", ("or", A, B)), "not (a or b)"),
            (("or", ("or", A, B), C), "(a or b or c)"), (("and", ("or", A, B), C), "((a or b) and c)"),
        ):
            self.check(("sum", ((1, "x", sector), (-1, "y", sector)), "="), f"x of {shown} - y of {shown} = 0")

    def test_sectors_behind_each(self):
        for sector, shown in (
            (ALL, "all"), (("not", A), "not a"), (("and", A, B), "a and b"), (("or", A, B), "a or b"),
            (("and", A, ("or", A, B)), "a and (a or b)"),
        ):
            self.check(("each", sector, ((1, "x"),), ">="), f"each {shown}: x >= 0")


class ClaimTest(unittest.TestCase):
    def check(self, claim, text):
        self.assertEqual(show_claim(claim), text)
        self.assertEqual(read_claim(ABC, text), claim)

    def test_premises(self):
        one, two = ("sum", ((-1, "x", A),), "="), ("each", ("or", A, B), ((3, "y"),), ">=")
        self.check(((), one), "-x of a = 0")
        self.check(((), two), "each a or b: 3 y >= 0")
        self.check(((two,), one), "if each a or b: 3 y >= 0 then -x of a = 0")
        self.check(((two, one, one), two), "if each a or b: 3 y >= 0, -x of a = 0, -x of a = 0 then each a or b: 3 y >= 0")

    def test_more_premises_than_can_be_read(self):
        one = ("sum", ((1, "x", A),), "=")
        self.assertEqual(show_claim(((one,) * 6, one)), "if " + ", ".join(["x of a = 0"] * 6) + " then x of a = 0")


class ScriptTest(unittest.TestCase):
    def check(self, script, text):
        self.assertEqual(show_script(script), text)
        self.assertEqual(read_script(ABC, text), script)

    def test_without_statements(self):
        self.check((), "")

    def test_statements(self):
        one = ("sum", ((1, "x", A),), "=")
        self.check((("assume", "p", one),), "assume p: x of a = 0;")
        self.check((("claim", "p", ((), one)),), "claim p: x of a = 0;")
        self.check((("claim", "p", ((one,), one)),), "claim p: if x of a = 0 then x of a = 0;")
        self.check((("type", "t", ("or", A, B), (), ("not", C), ()),), "type t: a or b [] to not c [];")

    def test_entries(self):
        for entries, shown in (
            ((), "[]"), ((("x", 1),), "[x]"), ((("x", -1),), "[-x]"), ((("x", 7),), "[7 x]"), ((("x", -7),), "[-7 x]"),
            ((("y", -9999), ("x", 1), ("z", -1), ("w", 2)), "[-9999 y, x, -z, 2 w]"),
        ):
            self.check((("type", "t", A, entries, ALL, ()),), f"type t: a {shown} to all [];")
            self.check((("type", "t", A, (), ALL, entries),), f"type t: a [] to all {shown};")

    def test_lines(self):
        one = ("sum", ((1, "x", A),), "=")
        script = (("assume", "p", one), ("drop", "p"), ("claim", "p", ((), one)), ("drop", "p"))
        self.check(script, "assume p: x of a = 0;\ndrop p;\nclaim p: x of a = 0;\ndrop p;")

    def test_scripts_that_are_right_for_no_model(self):
        self.assertEqual(show_script((("drop", "a"), ("drop", "a"))), "drop a;\ndrop a;")


class ModelTest(unittest.TestCase):
    def check(self, model, text):
        self.assertEqual(show_model(model), text)
        self.assertEqual(read_model(text), model)

    def test_without_statements(self):
        self.check((("a",), ("x",), (), (), ()), "sectors a;\naccounts x;")

    def test_without_sectors(self):
        self.check(((), ("x", "y"), (), (), ()), "sectors;\naccounts x, y;")

    def test_types_before_assumptions_before_claims(self):
        text = "sectors a, b;\naccounts x, y;\ntype t: a [-x] to b [x, 2 y];\ntype s: all [] to a [];"
        text += "\nassume q: x of b >= 0;\nassume p: each a: y = 0;\nclaim d: y of all = 0;\nclaim c: if x of a = 0 then y of a = 0;"
        y, x = ("sum", ((1, "y", A),), "="), ("sum", ((1, "x", A),), "=")
        types = (("t", A, (("x", -1),), B, (("x", 1), ("y", 2))), ("s", ALL, (), A, ()))
        assumptions = (("q", ("sum", ((1, "x", B),), ">=")), ("p", ("each", A, ((1, "y"),), "=")))
        claims = (("d", ((), ("sum", ((1, "y", ALL),), "="))), ("c", ((x,), y)))
        self.check((("a", "b"), ("x", "y"), types, assumptions, claims), text)

    def test_parts_that_are_missing(self):
        claims = (("c", ((), ("sum", ((1, "x", ALL),), "="))),)
        self.check(((), ("x",), (), (), claims), "sectors;\naccounts x;\nclaim c: x of all = 0;")


class RoundTripTest(unittest.TestCase):
    """[47], with things drawn from a source that always draws the same."""

    def setUp(self):
        self.source = random.Random(47)

    def test_sector_expressions(self):
        for _ in range(1000):
            sector = things.sector(self.source, ABC[0])
            self.assertEqual(read_sector(ABC, show_sector(sector)), sector)

    def test_long_and_deep_sector_expressions(self):
        for _ in range(1000):
            sector = things.sector(self.source, ABC[0], 12)
            text = show_sector(sector)
            leaves = [token for token in split_text(text) if token[1] == "name" or token[2] in ("all", "none")]
            if len(leaves) <= 12 and depth_of(text) <= 6:
                self.assertEqual(read_sector(ABC, text), sector)

    def test_constraints_and_claims(self):
        for _ in range(300):
            constraint = things.constraint(self.source, ABC)
            self.assertEqual(read_constraint(ABC, show_constraint(constraint)), constraint)
            claim = things.claim(self.source, ABC, 2, 3)
            self.assertEqual(read_claim(ABC, show_claim(claim)), claim)

    def test_models(self):
        for _ in range(100):
            model = things.model(self.source, 1, (3, 4, 5, 3, 8), 1)
            text = show_model(model)
            self.assertEqual(read_model(text), model)
            self.assertEqual(read_model(" \n " + text.replace("\n", " ") + "\n"), model)

    def test_scripts(self):
        for _ in range(200):
            model = things.model(self.source, 1)
            script = things.script(self.source, model)
            self.assertEqual(read_script(model, show_script(script)), script)

    def test_the_statements_of_a_model_are_a_script(self):
        for _ in range(50):
            model = things.model(self.source, 1)
            bare = (*model[:2], (), (), ())
            script = read_script(bare, show_model(model).split(";\n", 2)[2] if any(model[2:]) else "")
            self.assertEqual(changed(bare, script), model)


if __name__ == "__main__":
    unittest.main()
