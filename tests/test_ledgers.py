"""[60] to [65] and the interface's heading `ledgerproof/ledgers.py`."""

import random
import unittest

import things
from ledgerproof.errors import NotRefuted
from ledgerproof.ledgers import balances, minimized, problem, refutes, satisfies, value
from ledgerproof.models import premises_of
from ledgerproof.reader import read_claim, read_constraint, read_model
from printed import MODEL, check_examples

EXAMPLES = """
>>> from ledgerproof.ledgers import balances, minimized, problem, refutes, satisfies, value
>>> paid = ((("firm",), ("home",)), (("wage", 0, 1, 5), ("wage", 0, 1, 2)))
>>> balances(model, paid)
((-7, 0), (7, 0))
>>> value(model, paid, read_constraint(model, "2 cash of home - cash of all >= 0"))
14
>>> value(model, paid, read_constraint(model, "each all: -cash + 3 debt >= 0"))
((0, 7), (1, -7))
>>> satisfies(model, paid, read_constraint(model, "each home and firm: cash = 0"))
True
>>> refutes(model, paid, read_claim(model, "if cash of all = 0 then each firm: cash >= 0"))
True
>>> minimized(model, paid, read_claim(model, "each firm: cash >= 0"))
(1,)
>>> problem(model, ((("firm", "firm"),), ()))
('participant', 0)
>>> problem(model, ((("firm",), ("home",)), (("wage", 0, 1, 1), ("wage", 1, 0, 0))))
('transaction', 1, 'payer sector')
"""

HUGE = 10 ** 60 - 1

TOWN = read_model("""
sectors home, firm, bank; accounts cash, debt, stock;
type wage: firm [-cash] to home [cash];
type loan: bank [-2 cash, debt] to not bank [2 cash, -debt];
type swap: all [-stock, 3 debt] to all [2 stock];
""")


def slow_balance(model, ledger, participant, account):
    """The balance by the words of [62]."""
    total = 0
    for name, payer, payee, amount in ledger[1]:
        kind = {kind[0]: kind for kind in model[2]}[name]
        for person, entries in ((payer, kind[2]), (payee, kind[4])):
            if person == participant:
                total += amount * dict(entries).get(account, 0)
    return total


def slow_value(model, ledger, constraint):
    """The value by the words of [63]."""
    people = range(len(ledger[0]))
    if constraint[0] == "sum":
        return sum(
            number * slow_balance(model, ledger, person, account)
            for number, account, sector in constraint[1] for person in people
            if things.holds_for(ledger[0][person], model[0], sector)
        )
    return tuple(
        (person, sum(number * slow_balance(model, ledger, person, account) for number, account in constraint[2]))
        for person in people if things.holds_for(ledger[0][person], model[0], constraint[1])
    )


def slow_satisfies(model, ledger, constraint):
    found = slow_value(model, ledger, constraint)
    numbers = [found] if constraint[0] == "sum" else [number for _, number in found]
    return all(number == 0 or (number > 0 and constraint[-1] == ">=") for number in numbers)


def slow_refutes(model, ledger, claim):
    premises = [assumption[1] for assumption in model[3]] + list(claim[0])
    return all(slow_satisfies(model, ledger, premise) for premise in premises) and not slow_satisfies(model, ledger, claim[1])


def slow_minimized(model, ledger, claim):
    """The rounds of [65], one by one."""
    remaining = list(range(len(ledger[1])))
    while True:
        before = list(remaining)
        for number in before:
            others = [other for other in remaining if other != number]
            if slow_refutes(model, (ledger[0], tuple(ledger[1][k] for k in others)), claim):
                remaining = others
        if remaining == before:
            return tuple(remaining)


class PrintedTest(unittest.TestCase):
    def test_examples_of_the_interface(self):
        names = {"model": MODEL, "read_claim": read_claim, "read_constraint": read_constraint}
        check_examples(self, EXAMPLES, names)


class ProblemTest(unittest.TestCase):
    PEOPLE = (("firm",), ("home",), (), ("home", "firm"))

    def check(self, people, transactions, told):
        self.assertEqual(problem(MODEL, (people, transactions)), told)

    def test_ledgers_have_none(self):
        self.check((), (), None)
        self.check(((),), (), None)
        self.check(self.PEOPLE, (), None)
        self.check(self.PEOPLE, (("wage", 0, 1, 1), ("wage", 3, 1, HUGE), ("wage", 0, 3, 7)), None)
        self.check((("home", "firm"), ("firm", "home")), (("wage", 0, 1, 1), ("wage", 1, 0, 1)), None)

    def test_participants(self):
        for names in (("bank",), ("home", "bank"), ("Home",), ("",), ("home", "home"), ("home", "firm", "home"), ("cash",), ("?" * 20,)):
            self.check((names,), (), ("participant", 0))
            self.check((("home",), (), names, ("x",)), (), ("participant", 2))

    def test_every_reason_alone(self):
        for transaction, reason in (
            (("pay", 0, 1, 1), "type"), (("", 0, 1, 1), "type"), (("cash", 0, 1, 1), "type"), (("Wage ?", 0, 1, 1), "type"),
            (("wage", 4, 1, 1), "payer"), (("wage", -1, 1, 1), "payer"), (("wage", HUGE, 1, 1), "payer"),
            (("wage", -HUGE, 1, 1), "payer"), (("wage", -4, 1, 1), "payer"),
            (("wage", 0, 4, 1), "payee"), (("wage", 0, -1, 1), "payee"), (("wage", 0, -3, 1), "payee"), (("wage", 0, HUGE, 1), "payee"),
            (("wage", 3, 3, 1), "same"),
            (("wage", 1, 3, 1), "payer sector"), (("wage", 2, 1, 1), "payer sector"),
            (("wage", 0, 2, 1), "payee sector"), (("wage", 3, 0, 1), "payee sector"),
            (("wage", 0, 1, 0), "amount"), (("wage", 0, 1, -1), "amount"), (("wage", 0, 1, -HUGE), "amount"),
        ):
            self.check(self.PEOPLE, (transaction,), ("transaction", 0, reason))

    def test_the_first_of_several_reasons(self):
        for transaction, reason in (
            (("pay", 9, 9, 0), "type"), (("wage", 9, 9, 0), "payer"), (("wage", -1, -1, 0), "payer"),
            (("wage", 1, 9, 0), "payee"), (("wage", 2, 2, 0), "same"), (("wage", 1, 0, 0), "payer sector"),
            (("wage", 1, 2, 5), "payer sector"), (("wage", 0, 2, 0), "payee sector"), (("pay", 0, 1, 1), "type"),
        ):
            self.check(self.PEOPLE, (transaction,), ("transaction", 0, reason))

    def test_participants_before_transactions_and_first_ones_first(self):
        good = ("wage", 0, 1, 1)
        self.check(self.PEOPLE + (("x",), ("y",)), (("pay", 0, 1, 1),), ("participant", 4))
        self.check(self.PEOPLE, (good, good, ("wage", 0, 1, 0), ("pay", 0, 1, 1)), ("transaction", 2, "amount"))

    def test_a_model_without_types_or_sectors(self):
        empty = ((), ("x",), (), (), ())
        self.assertIsNone(problem(empty, (((), ()), ())))
        self.assertEqual(problem(empty, ((("a",),), ())), ("participant", 0))
        self.assertEqual(problem(empty, (((), ()), (("t", 0, 1, 1),))), ("transaction", 0, "type"))

    def test_sectors_to_which_nobody_belongs(self):
        model = read_model("sectors a; accounts x; type t: none [] to all []; type u: all [] to a and not a [];")
        self.assertEqual(problem(model, (((), ("a",)), (("t", 0, 1, 1),))), ("transaction", 0, "payer sector"))
        self.assertEqual(problem(model, (((), ("a",)), (("u", 0, 1, 1),))), ("transaction", 0, "payee sector"))

    def test_ledgers_drawn_from_a_source_have_none(self):
        source = random.Random(61)
        for _ in range(100):
            model = things.model(source)
            self.assertIsNone(problem(model, things.ledger(source, model)))


class BalancesTest(unittest.TestCase):
    def test_without_participants_or_transactions(self):
        self.assertEqual(balances(TOWN, ((), ())), ())
        self.assertEqual(balances(TOWN, (((), ("home",)), ())), ((0, 0, 0), (0, 0, 0)))

    def test_payers_and_payees_entries(self):
        people = (("bank",), ("home",), ("firm",))
        self.assertEqual(balances(TOWN, (people, (("loan", 0, 1, 5),))), ((-10, 5, 0), (10, -5, 0), (0, 0, 0)))
        self.assertEqual(balances(TOWN, (people, (("swap", 2, 0, 4),))), ((0, 0, 8), (0, 0, 0), (0, 12, -4)))
        self.assertEqual(balances(TOWN, (people, (("loan", 0, 1, 5), ("swap", 1, 0, 2)))), ((-10, 5, 4), (10, 1, -2), (0, 0, 0)))

    def test_amounts_of_sixty_digits(self):
        people = (("firm",), ("home",))
        ledger = (people, (("wage", 0, 1, HUGE), ("wage", 0, 1, HUGE)))
        self.assertEqual(balances(TOWN, ledger), ((-2 * HUGE, 0, 0), (2 * HUGE, 0, 0)))

    def test_by_the_words_in_any_order_and_split(self):
        source = random.Random(62)
        for _ in range(150):
            model = things.model(source)
            people, transactions = things.ledger(source, model)
            told = balances(model, (people, transactions))
            expected = tuple(
                tuple(slow_balance(model, (people, transactions), person, account) for account in model[1])
                for person in range(len(people))
            )
            self.assertEqual(told, expected)
            other = source.sample(transactions, len(transactions))
            self.assertEqual(balances(model, (people, tuple(other))), told)
            split = [part for name, payer, payee, amount in transactions
                     for part in ((name, payer, payee, amount + 3), (name, payer, payee, 4))]
            joined = tuple((name, payer, payee, amount + 7) for name, payer, payee, amount in transactions)
            self.assertEqual(balances(model, (people, tuple(split))), balances(model, (people, joined)))

    def test_kinds_of_values(self):
        told = balances(TOWN, (((), ()), (("swap", 0, 1, 1),)))
        self.assertEqual([type(row) for row in (told, *told)], [tuple] * 3)


class ValueTest(unittest.TestCase):
    PEOPLE = (("home", "firm"), ("home",), (), ("bank",))
    LEDGER = (PEOPLE, (("wage", 0, 1, 5), ("loan", 3, 2, 3), ("loan", 3, 0, 1), ("swap", 1, 2, 2)))

    def check(self, text, told):
        constraint = read_constraint(TOWN, text)
        self.assertEqual(value(TOWN, self.LEDGER, constraint), told)
        self.assertEqual(slow_value(TOWN, self.LEDGER, constraint), told)

    def check_satisfied(self, text, told):
        self.assertIs(satisfies(TOWN, self.LEDGER, read_constraint(TOWN, text)), told)

    def test_balances_of_the_ledger(self):
        self.assertEqual(balances(TOWN, self.LEDGER), ((-3, -1, 0), (5, 6, -2), (6, -3, 4), (-8, 4, 0)))

    def test_sums(self):
        self.check("cash of all >= 0", 0)
        self.check("cash of home >= 0", 2)
        self.check("cash of none >= 0", 0)
        self.check("-3 debt of not home + stock of all >= 0", -1)

    def test_a_member_of_several_sectors_counts_in_each_term(self):
        self.check("cash of home + cash of firm >= 0", -1)
        self.check("cash of (home or firm) >= 0", 2)
        self.check("cash of all - cash of home - cash of not home >= 0", 0)

    def test_members_of_no_sector(self):
        self.check("cash of not (home or firm or bank) >= 0", 6)
        self.check("each not home and not bank: cash >= 0", ((2, 6),))

    def test_several_terms_of_the_same_account(self):
        self.check("cash of home + cash of home - 3 cash of home >= 0", -2)
        self.check("each home: cash + cash - 5 cash + debt >= 0", ((0, 8), (1, -9)))

    def test_eaches(self):
        self.check("each all: cash >= 0", ((0, -3), (1, 5), (2, 6), (3, -8)))
        self.check("each firm: 2 cash - debt >= 0", ((0, -5),))
        self.check("each none: cash >= 0", ())

    def test_relations_of_sums(self):
        for text, told in (("cash of home", (True, False)), ("-cash of home", (False, False)), ("cash of all", (True, True))):
            self.check_satisfied(text + " >= 0", told[0])
            self.check_satisfied(text + " = 0", told[1])

    def test_relations_of_eaches(self):
        for text, told in (
            ("each home: cash", (False, False)), ("each bank: -cash", (True, False)), ("each all: stock - stock", (True, True)),
            ("each home: debt + cash", (False, False)), ("each not home: stock", (True, False)), ("each firm: stock", (True, True)),
            ("each firm and bank: -cash", (True, True)), ("each none: cash", (True, True)),
        ):
            self.check_satisfied(text + " >= 0", told[0])
            self.check_satisfied(text + " = 0", told[1])

    def test_every_member_counts(self):
        people = (("home",),) * 3 + (("firm",),)
        for person in range(3):
            ledger = (people, (("wage", 3, person, 2),))
            self.assertFalse(satisfies(TOWN, ledger, read_constraint(TOWN, "each home: -cash >= 0")))
            self.assertFalse(satisfies(TOWN, ledger, read_constraint(TOWN, "each home: cash = 0")))
            self.assertTrue(satisfies(TOWN, ledger, read_constraint(TOWN, "each home: cash >= 0")))

    def test_a_ledger_without_participants(self):
        empty = ((), ())
        self.assertEqual(value(TOWN, empty, read_constraint(TOWN, "cash of all >= 0")), 0)
        self.assertEqual(value(TOWN, empty, read_constraint(TOWN, "each all: cash >= 0")), ())
        self.assertIs(satisfies(TOWN, empty, read_constraint(TOWN, "each all: cash = 0")), True)

    def test_by_the_words(self):
        source = random.Random(63)
        for _ in range(300):
            model = things.model(source, 2, (3, 4, 5, 0, 0))
            ledger = things.ledger(source, model)
            constraint = things.constraint(source, model)
            self.assertEqual(value(model, ledger, constraint), slow_value(model, ledger, constraint))
            self.assertIs(satisfies(model, ledger, constraint), slow_satisfies(model, ledger, constraint))


class RefutesTest(unittest.TestCase):
    PAID = ((("firm",), ("home",)), (("wage", 0, 1, 5),))
    GOOD, BAD = "cash of home >= 0", "cash of firm >= 0"

    def check(self, told, conclusion, own=(), assumed=()):
        model = (*MODEL[:3], tuple((f"{'ab'[k]}", read_constraint(MODEL, text)) for k, text in enumerate(assumed)), ())
        text = ("if " + ", ".join(own) + " then " if own else "") + conclusion
        self.assertIs(refutes(model, self.PAID, read_claim(MODEL, text)), told)

    def test_conclusions(self):
        self.check(False, self.GOOD)
        self.check(True, self.BAD)
        self.check(True, "each firm: cash >= 0")
        self.check(False, "each firm: debt = 0")
        self.check(True, "cash of home = 0")

    def test_own_premises(self):
        self.check(True, self.BAD, [self.GOOD])
        self.check(False, self.BAD, [self.BAD])
        self.check(False, self.BAD, [self.GOOD, self.BAD])
        self.check(False, self.BAD, [self.BAD, self.GOOD])
        self.check(False, self.GOOD, [self.GOOD])
        self.check(False, self.GOOD, [self.BAD])

    def test_assumptions(self):
        self.check(True, self.BAD, [], [self.GOOD])
        self.check(False, self.BAD, [], [self.BAD])
        self.check(False, self.BAD, [], [self.GOOD, "each home: cash = 0"])
        self.check(False, self.GOOD, [], [self.GOOD])
        self.check(True, self.BAD, [self.GOOD], [self.GOOD, "cash of all = 0"])
        self.check(False, self.BAD, [self.GOOD], [self.BAD])
        self.check(False, self.BAD, [self.BAD], [self.GOOD])

    def test_no_transactions_refute_nothing(self):
        self.assertIs(refutes(MODEL, ((("firm",),), ()), read_claim(MODEL, self.BAD)), False)

    def test_by_the_words(self):
        source = random.Random(64)
        found = {True: 0, False: 0}
        for _ in range(400):
            model = things.model(source, 2, (2, 2, 4, 1, 0))
            ledger, claim = things.ledger(source, model), things.claim(source, model, 2, 2, 1)
            told = refutes(model, ledger, claim)
            self.assertIs(told, slow_refutes(model, ledger, claim))
            found[told] += 1
        self.assertGreater(min(found.values()), 20)


class MinimizedTest(unittest.TestCase):
    def check(self, model, ledger, claim, told):
        self.assertEqual(minimized(model, ledger, claim), told)
        self.assertEqual(slow_minimized(model, ledger, claim), told)

    def test_the_last_one_that_suffices_remains(self):
        people = (("firm",), ("home",))
        claim = read_claim(MODEL, "cash of firm >= 0")
        for many in (1, 2, 5):
            ledger = (people, (("wage", 0, 1, 3),) * many)
            self.check(MODEL, ledger, claim, (many - 1,))

    def test_several_that_are_needed_together(self):
        people = (("firm",), ("home",), ("home",))
        claim = read_claim(MODEL, "if each home: cash >= 0, cash of all = 0 then each firm: cash >= 0")
        self.check(MODEL, (people, (("wage", 0, 1, 2), ("wage", 0, 2, 2))), claim, (1,))

    def test_all_transactions_of_a_balanced_ledger_are_needed(self):
        model = read_model("sectors a; accounts x, y; type up: all [x] to a []; type down: all [-x, y] to a [];")
        ledger = (((), ("a",)), (("up", 0, 1, 2), ("down", 0, 1, 1), ("up", 0, 1, 1), ("down", 0, 1, 2)))
        claim = read_claim(model, "if x of all = 0 then y of all = 0")
        self.check(model, ledger, claim, (0, 1, 2, 3))
        claim = read_claim(model, "if x of all >= 0 then y of all = 0")
        self.check(model, ledger, claim, (0, 3))

    def test_several_rounds(self):
        model = read_model("""sectors; accounts w, x, y; type a: all [x] to all []; type b: all [y] to all [];
            type c: all [-x] to all []; type d: all [-x, w] to all []; type e: all [-w] to all [];""")
        people = ((), ())
        claim = read_claim(model, "if x of all >= 0, w of all >= 0 then y of all = 0")
        # What comes first is needed as long as what comes last is there.
        ledger = (people, (("a", 0, 1, 1), ("b", 0, 1, 1), ("c", 0, 1, 1)))
        self.check(model, ledger, claim, (1,))
        self.assertEqual(self.count_rounds(model, ledger, claim), 3)
        ledger = (people, (("b", 0, 1, 1), ("a", 0, 1, 1), ("d", 0, 1, 1), ("e", 0, 1, 1)))
        self.check(model, ledger, claim, (0,))
        self.assertEqual(self.count_rounds(model, ledger, claim), 4)

    def count_rounds(self, model, ledger, claim):
        remaining, rounds, before = list(range(len(ledger[1]))), 0, None
        while remaining != before:
            before, rounds = list(remaining), rounds + 1
            for number in before:
                others = [other for other in remaining if other != number]
                if slow_refutes(model, (ledger[0], tuple(ledger[1][k] for k in others)), claim):
                    remaining = others
        return rounds

    def test_a_claim_that_is_not_refuted(self):
        people = (("firm",), ("home",))
        for ledger, text in (
            ((people, ()), "cash of firm >= 0"), ((people, (("wage", 0, 1, 1),)), "cash of home >= 0"),
            ((people, (("wage", 0, 1, 1),)), "if cash of home = 0 then cash of firm >= 0"), (((), ()), "each all: cash = 0"),
        ):
            with self.assertRaises(NotRefuted):
                minimized(MODEL, ledger, read_claim(MODEL, text))

    def test_assumptions_count(self):
        people = (("firm",), ("home",))
        model = (*MODEL[:3], (("p", read_constraint(MODEL, "cash of all = 0")),), ())
        self.check(model, (people, (("wage", 0, 1, 1), ("wage", 0, 1, 1))), read_claim(MODEL, "cash of firm >= 0"), (1,))
        model = (*MODEL[:3], (("p", read_constraint(MODEL, "cash of home = 0")),), ())
        with self.assertRaises(NotRefuted):
            minimized(model, (people, (("wage", 0, 1, 1),)), read_claim(MODEL, "cash of firm >= 0"))

    def test_by_the_words(self):
        source = random.Random(65)
        found, lengths = 0, set()
        while found < 250:
            model = things.model(source, 2, (2, 2, 4, 1, 0))
            ledger, claim = things.ledger(source, model, 4, 12, 3), things.claim(source, model, 2, 2, 1)
            if slow_refutes(model, ledger, claim):
                found += 1
                told = minimized(model, ledger, claim)
                self.assertEqual(told, slow_minimized(model, ledger, claim))
                lengths.add(len(told))
                self.check_least(model, ledger, claim, told)
        self.assertLessEqual({1, 2, 3}, lengths)

    def check_least(self, model, ledger, claim, told):
        rest = tuple(ledger[1][number] for number in told)
        self.assertTrue(slow_refutes(model, (ledger[0], rest), claim))
        for number in range(len(rest)):
            self.assertFalse(slow_refutes(model, (ledger[0], rest[:number] + rest[number + 1:]), claim))

    def test_a_thousand_transactions_between_forty_participants(self):
        people = tuple((("firm",), ("home",), ("home", "firm"), ("firm", "bank"))[k & 3] for k in range(40))
        transactions = tuple(("wage", 4 * (k // 10 % 10), 4 * (k % 10) + 1 + (k & 1), k + 1) for k in range(1000))
        ledger = (people, transactions)
        self.assertIsNone(problem(TOWN, ledger))
        claim = read_claim(TOWN, "if each home and not firm: cash >= 0, cash of all = 0, each bank: debt = 0 then each firm: cash >= 0")
        self.assertEqual(minimized(TOWN, ledger, claim), (999,))
        with self.assertRaises(NotRefuted):
            minimized(TOWN, ledger, read_claim(TOWN, "if each all: cash >= 0 then cash of firm >= 0"))

    def test_the_arguments_stay_as_they_were(self):
        ledger = ((("firm",), ("home",)), (("wage", 0, 1, 5), ("wage", 0, 1, 2)))
        claim = read_claim(MODEL, "each firm: cash >= 0")
        kept = eval(repr((ledger, claim)))
        minimized(MODEL, ledger, claim)
        self.assertEqual((ledger, claim), kept)
        self.assertEqual(premises_of(MODEL, claim), ())


if __name__ == "__main__":
    unittest.main()
