"""[150], [151] and the interface's heading `ledgerproof/bounds.py`."""

import math
import random
import unittest
from fractions import Fraction

import things
from ledgerproof.bounds import bound, raised
from ledgerproof.dictionaries import multipliers, solve, start
from ledgerproof.errors import NotASum
from ledgerproof.ledgers import value
from ledgerproof.models import changed
from ledgerproof.obligations import contributions, system_of
from ledgerproof.printer import show_claim
from ledgerproof.reader import read_claim, read_constraint, read_model, read_script
from ledgerproof.verdicts import decide
from printed import check_examples

EXAMPLES = """
>>> from ledgerproof.bounds import bound, raised
>>> shop = read_model("sectors; accounts cash, stock; type sale: all [2 cash, -3 stock] to all [-cash, 2 stock];")
>>> thrift = read_claim(shop, "2 stock of all >= 0")
>>> bound(shop, thrift, read_constraint(shop, "3 cash of all >= 0"))
(2, 3)
>>> show_claim(raised(thrift, read_constraint(shop, "3 cash of all >= 0"), (2, 3)))
'6 stock of all + 6 cash of all >= 0'
>>> bound(shop, thrift, read_constraint(shop, "stock of all >= 0")) is None
True
"""

HUGE = 10 ** 30 - 1
SHOP = read_model("sectors; accounts x, y; type sale: all [2 x, -3 y] to all [-x, 2 y];")
ONE = read_model("sectors a; accounts x, y; type give: a [-x] to all [x]; type mint: all [-2 x] to a [3 y];")


def holds(model, claim):
    return decide(model, claim)[0] == "holds"


def told(fraction):
    return (fraction.numerator, fraction.denominator)


class PrintedTest(unittest.TestCase):
    def test_examples_of_the_interface(self):
        names = {"read_model": read_model, "read_claim": read_claim, "read_constraint": read_constraint, "show_claim": show_claim}
        check_examples(self, EXAMPLES, names)


class RaisedTest(unittest.TestCase):
    CLAIM = read_claim(ONE, "if y of a = 0, each a: x >= 0 then 2 x of a - 3 y of all >= 0")
    BY = read_constraint(ONE, "4 y of not a - x of all >= 0")

    def check(self, fraction, shown):
        found = raised(self.CLAIM, self.BY, fraction)
        self.assertEqual(found[0], self.CLAIM[0])
        self.assertEqual(show_claim(((), found[1])), shown)

    def test_zero(self):
        self.check((0, 1), "2 x of a - 3 y of all >= 0")
        self.assertEqual(raised(self.CLAIM, self.BY, (0, 1)), self.CLAIM)

    def test_whole_ones(self):
        self.check((1, 1), "2 x of a - 3 y of all + 4 y of not a - x of all >= 0")
        self.check((5, 1), "2 x of a - 3 y of all + 20 y of not a - 5 x of all >= 0")

    def test_others(self):
        self.check((1, 2), "4 x of a - 6 y of all + 4 y of not a - x of all >= 0")
        self.check((7, 3), "6 x of a - 9 y of all + 28 y of not a - 7 x of all >= 0")

    def test_numbers_of_30_digits(self):
        found = raised(self.CLAIM, self.BY, (HUGE, HUGE - 1))
        numbers = [2 * (HUGE - 1), -3 * (HUGE - 1), 4 * HUGE, -HUGE]
        self.assertEqual([term[0] for term in found[1][1]], numbers)
        self.assertEqual([term[0] for term in raised(self.CLAIM, self.BY, (1, HUGE))[1][1]], [2 * HUGE, -3 * HUGE, 4, -1])

    def test_claims_of_six_terms(self):
        claim = ((), ("sum", ((1, "x", ("all",)),) * 6, ">="))
        self.assertEqual(len(raised(claim, claim[1], (2, 3))[1][1]), 12)
        again = raised(claim, claim[1], (2, 3))
        self.assertEqual(len(raised(again, again[1], (1, 1))[1][1]), 24)

    def test_the_value(self):
        source = random.Random(150)
        for _ in range(200):
            model = things.small_model(source)
            claim = things.small_claim(source, model, 2, "sum", ">=")
            constraint = things.small_constraint(source, model, "sum", ">=")
            fraction = Fraction(source.randint(0, 6), source.randint(1, 6))
            found = raised(claim, constraint, told(fraction))
            self.assertEqual((found[0], found[1][0], found[1][2]), (claim[0], "sum", ">="))
            ledger = things.ledger(source, model)
            expected = fraction.denominator * (value(model, ledger, claim[1]) + fraction * value(model, ledger, constraint))
            self.assertEqual(value(model, ledger, found[1]), expected)

    def test_not_a_sum(self):
        good = "x of a >= 0"
        for claim, constraint in (
            ("each a: x >= 0", good), ("x of a = 0", good), ("each a: x = 0", good), ("if x of a = 0 then each none: x >= 0", good),
            (good, "each a: x >= 0"), (good, "x of a = 0"), (good, "each a: x = 0"), ("each a: x >= 0", "each a: x >= 0"),
        ):
            read = (read_claim(ONE, claim), read_constraint(ONE, constraint))
            for call in (lambda: raised(*read, (1, 2)), lambda: raised(*read, (0, 1)), lambda: bound(ONE, *read)):
                with self.assertRaises(NotASum):
                    call()

    def test_premises_may_have_any_form(self):
        claim = read_claim(ONE, "if x of a = 0, each a: x = 0, y of a >= 0, each all: y >= 0 then x of a >= 0")
        found = raised(claim, self.BY, (1, 1))
        self.assertEqual(found[0], claim[0])
        self.assertIsNotNone(bound(ONE, claim, self.BY))


class BoundTest(unittest.TestCase):
    def check(self, model, claim, constraint, expected):
        claim, constraint = read_claim(model, claim), read_constraint(model, constraint)
        self.assertEqual(bound(model, claim, constraint), expected)
        if expected is None:
            for fraction in ((0, 1), (1, 1), (10 ** 20, 1)):
                self.assertFalse(holds(model, raised(claim, constraint, fraction)))
            return
        self.assertTrue(holds(model, raised(claim, constraint, expected)))
        fraction = Fraction(*expected)
        for less in (fraction - Fraction(1, 10 ** 9), fraction * Fraction(99, 100), Fraction(0)):
            if 0 <= less < fraction:
                self.assertFalse(holds(model, raised(claim, constraint, told(less))))

    def test_fractions(self):
        # Each sale adds 1 to x and takes 1 from y.
        self.check(SHOP, "y of all >= 0", "x of all >= 0", (1, 1))
        self.check(SHOP, "y of all >= 0", "2 x of all >= 0", (1, 2))
        self.check(SHOP, "7 y of all >= 0", "3 x of all >= 0", (7, 3))
        self.check(SHOP, "6 y of all >= 0", "4 x of all >= 0", (3, 2))
        self.check(SHOP, "9999 y of all >= 0", "x of all >= 0", (9999, 1))

    def test_zero(self):
        self.check(SHOP, "x of all >= 0", "x of all >= 0", (0, 1))
        self.check(SHOP, "x of all >= 0", "y of all >= 0", (0, 1))
        self.check(SHOP, "x of none >= 0", "x of all >= 0", (0, 1))
        self.check(SHOP, "if y of all >= 0 then y of all >= 0", "x of all >= 0", (0, 1))

    def test_none(self):
        self.check(SHOP, "y of all >= 0", "y of all >= 0", None)
        self.check(SHOP, "y of all >= 0", "x of none >= 0", None)
        self.check(ONE, "x of a >= 0", "y of a >= 0", None)

    def test_premises_of_all_forms(self):
        # A mint takes 2 from x and adds 3 to y; a gift takes from members of a alone.
        self.check(ONE, "x of all >= 0", "y of all >= 0", (2, 3))
        self.check(ONE, "x of a >= 0", "x of a >= 0", None)
        self.check(ONE, "if x of a >= 0 then x of all >= 0", "y of all >= 0", (2, 3))
        self.check(ONE, "if each a: x >= 0 then x of all >= 0", "y of all >= 0", (2, 3))
        self.check(ONE, "if each all: x = 0 then 3 x of all - y of all >= 0", "y of all >= 0", (0, 1))
        self.check(ONE, "if x of all = 0 then 3 x of all - y of all >= 0", "y of all >= 0", (0, 1))
        self.check(ONE, "if x of all >= 0 then x of a - y of all >= 0", "y of all >= 0", None)
        self.check(ONE, "if 5 x of all + 4 y of all >= 0 then x of all >= 0", "3 y of a >= 0", (2, 9))
        self.check(ONE, "if 5 x of all + 3 y of all >= 0 then x of all >= 0", "3 y of a >= 0", (0, 1))

    def test_assumptions_count(self):
        bare = read_model("sectors; accounts x, y; type t: all [-2 x] to all [3 y]; type u: all [-3 x] to all [2 y];")
        self.check(bare, "x of all >= 0", "y of all >= 0", (3, 2))
        self.check(bare, "if x of all + y of all >= 0 then x of all >= 0", "y of all >= 0", (1, 1))
        model = changed(bare, read_script(bare, "assume p: each all: x + y >= 0;"))
        self.check(model, "x of all >= 0", "y of all >= 0", (1, 1))
        self.check(model, "if x of all + y of all = 0 then x of all >= 0", "3 y of all >= 0", (1, 3))
        self.check(model, "if x of all + 3 y of all = 0 then x of all >= 0", "3 y of all >= 0", (0, 1))

    def test_models_without_types_and_units(self):
        bare = read_model("sectors; accounts x, y;")
        self.check(bare, "-x of all >= 0", "y of all >= 0", (0, 1))
        model = read_model("sectors; accounts x, y; type t: none [-x] to all [];")
        self.check(model, "if x of all = 0 then x of all >= 0", "y of all >= 0", (0, 1))

    def test_constraints_that_are_negative_themselves(self):
        model = read_model("sectors; accounts x, y; type t: all [-x] to all [y]; type u: all [2 x] to all [-3 y];")
        self.check(model, "x of all >= 0", "y of all >= 0", None)
        model = read_model("sectors; accounts x, y; type t: all [-x] to all [2 y]; type u: all [2 x] to all [-3 y];")
        self.check(model, "x of all >= 0", "y of all >= 0", (1, 2))
        self.check(model, "x of all >= 0", "5 y of all >= 0", (1, 10))
        # Every fraction from 1/2 to 2/3 will do, and no other one.
        claim, constraint = read_claim(model, "x of all >= 0"), read_constraint(model, "y of all >= 0")
        for fraction, expected in (((1, 2), True), ((3, 5), True), ((2, 3), True), ((49, 100), False), ((67, 100), False)):
            self.assertEqual(holds(model, raised(claim, constraint, fraction)), expected)

    def test_it_is_the_least_fraction(self):
        source = random.Random(151)
        found = {}
        for _ in range(600):
            model = things.small_model(source, (2, 2, 4, 1, 0))
            claim = things.small_claim(source, model, 2, "sum", ">=")
            constraint = things.small_constraint(source, model, "sum", ">=")
            least = bound(model, claim, constraint)
            if least is None:
                word = "none"
                for fraction in (Fraction(0), Fraction(1, 3), Fraction(1), Fraction(5, 2), Fraction(10 ** 9)):
                    self.assertFalse(holds(model, raised(claim, constraint, told(fraction))))
            else:
                self.assertGreaterEqual(least[0], 0)
                self.assertGreaterEqual(least[1], 1)
                self.assertEqual(math.gcd(*least), 1)
                self.assertTrue(holds(model, raised(claim, constraint, least)))
                self.assertEqual(least == (0, 1), holds(model, claim))
                word = "zero" if least == (0, 1) else "whole" if least[1] == 1 else "other"
                fraction = Fraction(*least)
                for less in (fraction - Fraction(1, 10 ** 6), fraction / 2, fraction * Fraction(999, 1000)):
                    if 0 <= less < fraction:
                        self.assertFalse(holds(model, raised(claim, constraint, told(less))))
            found[word] = found.get(word, 0) + 1
        self.assertGreater(min(found[word] for word in ("none", "zero", "whole", "other")), 3)

    def test_by_the_system_with_one_row_more(self):
        source = random.Random(1511)
        for _ in range(100):
            model = things.small_model(source)
            claim = things.small_claim(source, model, 2, "sum", ">=")
            constraint = things.small_constraint(source, model, "sum", ">=")
            least = bound(model, claim, constraint)
            if least is not None:
                goal, rows = system_of(model, claim, 0)
                row = tuple(-number for _, _, _, number in contributions(model, constraint))
                scale, first, *_ = multipliers(solve(start((goal, (row, *rows)))))
                self.assertEqual(told(Fraction(first, scale)), least)

    def test_what_was_passed_stays(self):
        claim, constraint = read_claim(ONE, "if x of a = 0 then x of all >= 0"), read_constraint(ONE, "y of all >= 0")
        kept = eval(repr((ONE, claim, constraint)))
        bound(ONE, claim, constraint)
        raised(claim, constraint, (3, 2))
        self.assertEqual((ONE, claim, constraint), kept)


if __name__ == "__main__":
    unittest.main()
