"""[80] to [88] and the interface's heading `ledgerproof/obligations.py`."""

import random
import unittest

import things
from ledgerproof.errors import NotASum
from ledgerproof.ledgers import value
from ledgerproof.models import premises_of
from ledgerproof.obligations import aggregated, contributions, obligations, parts, system_of, unit_transactions
from ledgerproof.printer import show_claim
from ledgerproof.reader import read_claim, read_constraint, read_model
from ledgerproof.sectors import exactly, names_of, profiles
from printed import MODEL, check_examples

EXAMPLES = """
>>> from ledgerproof.obligations import aggregated, contributions, obligations, parts, system_of, unit_transactions
>>> unit_transactions(model, None)
(('wage', 2, 1), ('wage', 2, 3), ('wage', 3, 1), ('wage', 3, 3))
>>> unit_transactions(model, 1)
(('wage', 2, 1), ('wage', 2, 3), ('wage', 2, 4), ('wage', 3, 1), ('wage', 3, 3), ('wage', 3, 4))
>>> covered = read_claim(model, "if each firm: cash >= 0, cash of home = 0 then cash of (firm and home) >= 0")
>>> obligations(model, covered)
((None, 1, ((0, 2, 1), (0, 3, 1), (1, None, 1), (1, None, -1))),)
>>> system_of(model, covered, 0)
((0, 1, -1, 0), ((-1, -1, 0, 0), (0, 1, -1, 0), (1, 1, 0, 0), (-1, -1, 0, 0)))
>>> fair = read_claim(model, "if cash of all >= 0 then each home and not firm: 2 cash = 0")
>>> obligations(model, fair)
((1, 1, ((0, None, 1),)), (1, -1, ((0, None, 1),)))
>>> parts(model, fair)[1]
((('sum', ((1, 'cash', ('all',)),), '>='),), ('each', ('and', ('sector', 'home'), ('not', ('sector', 'firm'))), ((-2, 'cash'),), '>='))
>>> show_claim(aggregated(model, covered))
'if cash of (not home and firm) >= 0, cash of (home and firm) >= 0, cash of home = 0 then cash of (firm and home) >= 0'
>>> contributions(model, read_constraint(model, "cash of home >= 0"))
(('wage', 2, 1, 1), ('wage', 2, 3, 1), ('wage', 3, 1, 0), ('wage', 3, 3, 0))
"""

BARE = read_model("sectors; accounts x, y; type t: all [-x] to all [2 x, y];")
ONE = read_model("sectors a; accounts x, y; type t: a [-x] to all [2 x, y]; type u: all [y] to not a [];")
TWO = read_model("sectors a, b; accounts x, y; type t: a [-x] to b [2 x, y]; type u: all [] to a and b [x];")
THREE = read_model("sectors a, b, c; accounts x, y; type t: a and b [-x] to c and not a [x];")
MODELS = (BARE, ONE, TWO, THREE)


def lone(model, profile, unit):
    """A ledger of one transaction of the amount 1 that falls under the unit, and who is in which group."""
    name, payer, payee = unit
    members = [*range(2 ** len(model[0])), profile]
    people = (names_of(model, members[payer]), names_of(model, members[payee]))
    return (people, ((name, 0, 1, 1),)), (payer, payee)


def slow_contribution(model, profile, unit, constraint, group):
    """The contribution by what a transaction adds to the value [84]."""
    ledger, groups = lone(model, profile, unit)
    if constraint[0] == "sum":
        return value(model, ledger, constraint)
    return sum(number for person, number in value(model, ledger, ("each", ("all",), *constraint[2:])) if groups[person] == group)


def slow_system(model, claim, number):
    profile, sign, rows = obligations(model, claim)[number]
    units = unit_transactions(model, profile)
    premises = premises_of(model, claim)
    goal = tuple(sign * slow_contribution(model, profile, unit, claim[1], 2 ** len(model[0])) for unit in units)
    return goal, tuple(
        tuple(mark * slow_contribution(model, profile, unit, premises[premise], group) for unit in units)
        for premise, group, mark in rows
    )


def claims_of_random_models(seed, count):
    source = random.Random(seed)
    for _ in range(count):
        model = things.model(source, 2, (2, 2, 3, 2, 0))
        yield model, things.claim(source, model, 2, 3, 3)


class PrintedTest(unittest.TestCase):
    def test_examples_of_the_interface(self):
        names = {"model": MODEL, "read_claim": read_claim, "read_constraint": read_constraint, "show_claim": show_claim}
        check_examples(self, EXAMPLES, names)


class ObligationsTest(unittest.TestCase):
    def aims(self, model, text):
        return [(profile, sign) for profile, sign, _ in obligations(model, read_claim(model, text))]

    def test_sums_give_one(self):
        for model in MODELS:
            self.assertEqual(self.aims(model, "x of all >= 0"), [(None, 1)])
            self.assertEqual(self.aims(model, "x of none >= 0"), [(None, 1)])
            self.assertEqual(self.aims(model, "x of all = 0"), [(None, 1), (None, -1)])

    def test_eaches_give_one_for_each_profile(self):
        for model in MODELS:
            everybody = range(2 ** len(model[0]))
            self.assertEqual(self.aims(model, "each all: x >= 0"), [(profile, 1) for profile in everybody])
            both = [(profile, sign) for profile in everybody for sign in (1, -1)]
            self.assertEqual(self.aims(model, "each all: x = 0"), both)
        self.assertEqual(self.aims(THREE, "each b and not a: x >= 0"), [(2, 1), (6, 1)])
        self.assertEqual(self.aims(THREE, "each c or (a and b): x = 0"), [(p, s) for p in (3, 4, 5, 6, 7) for s in (1, -1)])

    def test_sectors_without_a_profile_give_none(self):
        for model in MODELS:
            for text in ("each none: x = 0", "each not all: x >= 0"):
                self.assertEqual(obligations(model, read_claim(model, text)), ())
        self.assertEqual(obligations(ONE, read_claim(ONE, "if x of a = 0 then each a and not a: x >= 0")), ())

    def rows(self, model, text):
        return [rows for _, _, rows in obligations(model, read_claim(model, text))]

    def test_rows_of_sums(self):
        self.assertEqual(self.rows(TWO, "x of all >= 0"), [()])
        self.assertEqual(self.rows(TWO, "if x of a >= 0 then x of all >= 0"), [((0, None, 1),)])
        rows = ((0, None, 1), (0, None, -1), (1, None, 1))
        self.assertEqual(self.rows(TWO, "if x of a = 0, y of b >= 0 then x of all = 0"), [rows, rows])
        self.assertEqual(self.rows(TWO, "if x of a = 0, y of b >= 0 then each a: x >= 0"), [rows, rows])

    def test_rows_of_eaches_without_a_distinguished_participant(self):
        self.assertEqual(self.rows(TWO, "if each b: x >= 0 then x of all >= 0"), [((0, 2, 1), (0, 3, 1))])
        rows = ((0, 0, 1), (0, 0, -1), (0, 2, 1), (0, 2, -1), (1, None, 1), (2, 1, 1), (2, 3, 1))
        self.assertEqual(self.rows(TWO, "if each not a: x = 0, x of a >= 0, each a: y >= 0 then x of all >= 0"), [rows])
        self.assertEqual(self.rows(TWO, "if each none: x = 0 then x of all >= 0"), [()])

    def test_rows_of_eaches_with_a_distinguished_participant(self):
        first = ((0, 1, 1), (0, 3, 1), (0, 4, 1))
        second = ((0, 1, 1), (0, 3, 1))
        self.assertEqual(self.rows(TWO, "if each a: x >= 0 then each a: y >= 0"), [first, first])
        self.assertEqual(self.rows(TWO, "if each a: x >= 0 then each not a: y >= 0"), [second, second])
        rows = ((0, 0, 1), (0, 0, -1), (0, 1, 1), (0, 1, -1))
        self.assertEqual(self.rows(BARE, "if each all: x = 0 then each all: y >= 0"), [rows])
        self.assertEqual(self.rows(ONE, "if each a: x = 0 then each all: y = 0"), [
            ((0, 1, 1), (0, 1, -1)), ((0, 1, 1), (0, 1, -1)),
            ((0, 1, 1), (0, 1, -1), (0, 2, 1), (0, 2, -1)), ((0, 1, 1), (0, 1, -1), (0, 2, 1), (0, 2, -1)),
        ])

    def test_rows_of_assumptions_come_first(self):
        model = (*ONE[:3], (("p", read_constraint(ONE, "each a: x = 0")), ("q", read_constraint(ONE, "x of a >= 0"))), ())
        rows = ((0, 1, 1), (0, 1, -1), (1, None, 1), (2, 0, 1))
        self.assertEqual(self.rows(model, "if each not a: y >= 0 then x of all >= 0"), [rows])
        rows = ((0, 1, 1), (0, 1, -1), (0, 2, 1), (0, 2, -1), (1, None, 1))
        self.assertEqual(self.rows(model, "each a: x >= 0"), [rows])


class UnitsTest(unittest.TestCase):
    def slow(self, model, profile):
        members = [*range(2 ** len(model[0])), *([] if profile is None else [profile])]
        return tuple(
            (kind[0], payer, payee) for kind in model[2]
            for payer in range(len(members)) for payee in range(len(members))
            if things.holds_for(names_of(model, members[payer]), model[0], kind[1])
            and things.holds_for(names_of(model, members[payee]), model[0], kind[3])
            and not payer == payee == 2 ** len(model[0])
        )

    def test_without_a_distinguished_participant(self):
        self.assertEqual(unit_transactions(BARE, None), (("t", 0, 0),))
        self.assertEqual(unit_transactions(ONE, None), (("t", 1, 0), ("t", 1, 1), ("u", 0, 0), ("u", 1, 0)))
        self.assertEqual(unit_transactions(THREE, None), (("t", 3, 4), ("t", 3, 6), ("t", 7, 4), ("t", 7, 6)))

    def test_with_a_distinguished_participant(self):
        self.assertEqual(unit_transactions(BARE, 0), (("t", 0, 0), ("t", 0, 1), ("t", 1, 0)))
        self.assertEqual(unit_transactions(ONE, 0), (
            ("t", 1, 0), ("t", 1, 1), ("t", 1, 2), ("u", 0, 0), ("u", 0, 2), ("u", 1, 0), ("u", 1, 2), ("u", 2, 0),
        ))
        self.assertEqual(unit_transactions(ONE, 1), (
            ("t", 1, 0), ("t", 1, 1), ("t", 1, 2), ("t", 2, 0), ("t", 2, 1), ("u", 0, 0), ("u", 1, 0), ("u", 2, 0),
        ))

    def test_a_model_without_types(self):
        for model in MODELS:
            bare = (*model[:2], (), (), ())
            self.assertEqual(unit_transactions(bare, None), ())
            self.assertEqual(unit_transactions(bare, 0), ())

    def test_types_whose_sectors_have_no_profile(self):
        model = read_model("sectors a; accounts x; type t: none [x] to all []; type u: all [] to a and not a [x]; type v: a [] to a [];")
        self.assertEqual(unit_transactions(model, None), (("v", 1, 1),))
        self.assertEqual(unit_transactions(model, 1), (("v", 1, 1), ("v", 1, 2), ("v", 2, 1)))

    def test_by_the_words(self):
        source = random.Random(82)
        for _ in range(200):
            model = things.model(source, 2, (3, 1, 5, 0, 0))
            for profile in (None, *range(2 ** len(model[0]))):
                self.assertEqual(unit_transactions(model, profile), self.slow(model, profile))

    def test_assumptions_and_claims_do_not_matter(self):
        model = (*TWO[:3], (("p", read_constraint(TWO, "x of a = 0")),), (("c", read_claim(TWO, "x of a = 0")),))
        self.assertEqual(unit_transactions(model, 1), unit_transactions(TWO, 1))


class SystemTest(unittest.TestCase):
    def check(self, model, text, number, goal, *rows):
        claim = read_claim(model, text)
        self.assertEqual(system_of(model, claim, number), (goal, rows))
        self.assertEqual(slow_system(model, claim, number), (goal, rows))

    def test_payer_and_payee_group_the_same(self):
        self.check(BARE, "if each all: x >= 0 then 3 x of all + y of all >= 0", 0, (4,), (1,))
        self.check(BARE, "if each all: y = 0 then x of all = 0", 1, (-1,), (1,), (-1,))

    def test_a_distinguished_participant(self):
        # The units are those within the group, to the distinguished one and from it.
        self.check(BARE, "if each all: x = 0 then each all: y >= 0", 0, (0, 1, 0), (1, -1, 2), (-1, 1, -2), (0, 2, -1), (0, -2, 1))
        self.check(BARE, "if each all: y >= 0 then each all: -x = 0", 0, (0, -2, 1), (1, 0, 1), (0, 1, 0))
        self.check(BARE, "if each all: y >= 0 then each all: -x = 0", 1, (0, 2, -1), (1, 0, 1), (0, 1, 0))

    def test_the_same_account_and_sector_in_several_terms(self):
        self.check(BARE, "if each all: x + x - 4 x >= 0 then x of all + x of all + y of none >= 0", 0, (2,), (-2,))
        self.check(ONE, "x of a + x of all >= 0", 0, (0, 2, 0, 0))

    def test_entries_on_one_side_only(self):
        self.check(ONE, "y of all >= 0", 0, (1, 1, 1, 1))
        self.check(ONE, "y of a >= 0", 0, (0, 1, 0, 1))

    def test_without_premises_and_without_units(self):
        self.check(ONE, "x of none >= 0", 0, (0, 0, 0, 0))
        bare = (*ONE[:2], (), (), ())
        self.check(bare, "x of all >= 0", 0, ())
        self.check(bare, "if x of a = 0 then x of all >= 0", 0, (), (), ())

    def test_by_what_a_transaction_adds(self):
        systems = 0
        for model, claim in claims_of_random_models(84, 250):
            for number in range(len(obligations(model, claim))):
                systems += 1
                self.assertEqual(system_of(model, claim, number), slow_system(model, claim, number))
        self.assertGreater(systems, 300)

    def test_kinds_of_values(self):
        goal, rows = system_of(ONE, read_claim(ONE, "if x of a = 0 then y of a >= 0"), 0)
        self.assertEqual([type(part) for part in (goal, rows, *rows)], [tuple] * 4)


class PartsTest(unittest.TestCase):
    def test_sums(self):
        claim = read_claim(TWO, "if x of b = 0 then 2 x of a - y of (a or b) = 0")
        premises = claim[0]
        either = ("or", ("sector", "a"), ("sector", "b"))
        self.assertEqual(parts(TWO, claim), (
            (premises, ("sum", ((2, "x", ("sector", "a")), (-1, "y", either)), ">=")),
            (premises, ("sum", ((-2, "x", ("sector", "a")), (1, "y", either)), ">=")),
        ))
        claim = read_claim(TWO, "x of a >= 0")
        self.assertEqual(parts(TWO, claim), (claim,))

    def test_eaches(self):
        claim = read_claim(TWO, "each a: 2 x - y = 0")
        expected = []
        for profile in (1, 3):
            for sign in (1, -1):
                expected.append(((), ("each", exactly(TWO, profile), ((2 * sign, "x"), (-sign, "y")), ">=")))
        self.assertEqual(parts(TWO, claim), tuple(expected))
        self.assertEqual(parts(BARE, read_claim(BARE, "each all: x >= 0")), (((), ("each", ("all",), ((1, "x"),), ">=")),))
        self.assertEqual(parts(TWO, read_claim(TWO, "each none: x = 0")), ())

    def test_systems_of_parts(self):
        for model, claim in claims_of_random_models(86, 200):
            told = parts(model, claim)
            self.assertEqual(len(told), len(obligations(model, claim)))
            for number, part in enumerate(told):
                self.assertEqual(part[0], claim[0])
                self.assertEqual(part[1][-1], ">=")
                self.assertEqual(len(obligations(model, part)), 1)
                self.assertEqual(system_of(model, part, 0), system_of(model, claim, number))

    def test_parts_of_parts(self):
        for model, claim in claims_of_random_models(861, 50):
            for part in parts(model, claim):
                again = parts(model, part)
                self.assertEqual(len(again), 1)
                self.assertEqual(system_of(model, again[0], 0), system_of(model, part, 0))


class AggregatedTest(unittest.TestCase):
    def test_eaches_become_sums(self):
        claim = read_claim(TWO, "if each a: 2 x - y = 0, x of b >= 0, each none: x = 0, each not a and b: y >= 0 then x of a = 0")
        one, three, two = [exactly(TWO, profile) for profile in (1, 3, 2)]
        self.assertEqual(aggregated(TWO, claim), ((
            ("sum", ((2, "x", one), (-1, "y", one)), "="), ("sum", ((2, "x", three), (-1, "y", three)), "="),
            claim[0][1], ("sum", ((1, "y", two),), ">="),
        ), claim[1]))

    def test_claims_about_sums_stay(self):
        claim = read_claim(TWO, "if x of a = 0 then y of b >= 0")
        self.assertEqual(aggregated(TWO, claim), claim)
        claim = read_claim(BARE, "if each all: x >= 0 then y of all = 0")
        self.assertEqual(aggregated(BARE, claim)[0], (("sum", ((1, "x", ("all",)),), ">="),))

    def test_assumptions_are_not_in_it(self):
        model = (*TWO[:3], (("p", read_constraint(TWO, "each a: x = 0")),), ())
        claim = read_claim(TWO, "if each b: x >= 0 then y of b >= 0")
        self.assertEqual(aggregated(model, claim), aggregated(TWO, claim))

    def test_not_a_sum(self):
        for text in ("each a: x >= 0", "if x of a = 0 then each none: x = 0", "if each a: x = 0 then each a: y >= 0"):
            with self.assertRaises(NotASum):
                aggregated(TWO, read_claim(TWO, text))

    def test_systems_are_the_same(self):
        checked = 0
        for model, claim in claims_of_random_models(87, 300):
            if claim[1][0] == "sum":
                told = aggregated(model, claim)
                self.assertEqual(len(obligations(model, told)), len(obligations(model, claim)))
                for number in range(len(obligations(model, claim))):
                    checked += 1
                    self.assertEqual(system_of(model, told, number), system_of(model, claim, number))
        self.assertGreater(checked, 150)


class ContributionsTest(unittest.TestCase):
    def test_without_regard_to_the_relation(self):
        for text in ("x of a - y of b", "2 x of not a", "y of all", "x of none"):
            told = contributions(TWO, read_constraint(TWO, text + " >= 0"))
            self.assertEqual(contributions(TWO, read_constraint(TWO, text + " = 0")), told)
            system = system_of(TWO, read_claim(TWO, text + " >= 0"), 0)
            self.assertEqual(told, tuple((*unit, number) for unit, number in zip(unit_transactions(TWO, None), system[0])))

    def test_without_units(self):
        self.assertEqual(contributions((*TWO[:2], (), (), ()), read_constraint(TWO, "x of a = 0")), ())

    def test_not_a_sum(self):
        for text in ("each a: x >= 0", "each none: x = 0"):
            with self.assertRaises(NotASum):
                contributions(TWO, read_constraint(TWO, text))

    def test_assumptions_do_not_matter(self):
        constraint = read_constraint(TWO, "x of a = 0")
        model = (*TWO[:3], (("p", constraint),), ())
        self.assertEqual(contributions(model, constraint), contributions(TWO, constraint))

    def test_by_what_a_transaction_adds(self):
        source = random.Random(88)
        for _ in range(200):
            model = things.model(source, 2, (3, 2, 3, 0, 0))
            constraint = things.constraint(source, model)
            if constraint[0] == "sum":
                units = unit_transactions(model, None)
                told = tuple((*unit, slow_contribution(model, None, unit, constraint, None)) for unit in units)
                self.assertEqual(contributions(model, constraint), told)

    def test_profiles_are_those_of_the_sectors(self):
        self.assertEqual({payer for _, payer, _, _ in contributions(ONE, read_constraint(ONE, "x of a = 0"))}, {0, 1})
        self.assertEqual(profiles(ONE, ONE[2][0][1]), (1,))


if __name__ == "__main__":
    unittest.main()
