"""[90] to [92] and the interface's heading `ledgerproof/flows.py`."""

import random
import unittest

import things
from ledgerproof.flows import flows, made, paired
from ledgerproof.ledgers import balances, problem, refutes, satisfies, value
from ledgerproof.models import premises_of
from ledgerproof.obligations import obligations, system_of, unit_transactions
from ledgerproof.reader import read_claim, read_constraint, read_model
from ledgerproof.sectors import names_of, profile_of
from printed import MODEL, check_examples

EXAMPLES = """
>>> from ledgerproof.flows import flows, made, paired
>>> crowd = ((("firm",), ("home",), ("home",), ("home", "firm")), (("wage", 0, 1, 5), ("wage", 0, 2, 2), ("wage", 3, 2, 4), ("wage", 0, 3, 1)))
>>> flows(model, crowd)
(7, 1, 4, 0)
>>> flows(model, crowd, apart=1)
(2, 1, 5, 4, 0, 0)
>>> made(model, 1, (2, 0, 5, 0, 0, 0))
((('home',), ('home',), ('firm',), ('firm',), ('home',)), (('wage', 2, 0, 2), ('wage', 3, 1, 2), ('wage', 2, 4, 5), ('wage', 3, 4, 5)))
>>> paired(model, ((("home", "firm"), ("firm", "home")), (("wage", 0, 1, 3), ("wage", 1, 0, 2))))
((('home', 'firm'), ('home', 'firm')), (('wage', 0, 1, 5), ('wage', 1, 0, 5)))
"""

HUGE = 10 ** 60 - 1
ONE = read_model("sectors a; accounts x, y; type t: all [-x] to all [2 x, y];")


def cases(seed, count):
    """Models, ledgers and each way to set a participant apart."""
    source = random.Random(seed)
    for _ in range(count):
        model = things.model(source, 2, (3, 2, 4, 0, 0))
        ledger = things.ledger(source, model, 6, 12)
        for apart in (None, *range(len(ledger[0]))):
            yield model, ledger, apart


def groups_of(model, ledger, apart):
    return [2 ** len(model[0]) if k == apart else profile_of(model, names) for k, names in enumerate(ledger[0])]


class PrintedTest(unittest.TestCase):
    def test_examples_of_the_interface(self):
        check_examples(self, EXAMPLES, {"model": MODEL})


class FlowsTest(unittest.TestCase):
    # The units are t from 0 to 0, 0 to 1, 1 to 0 and 1 to 1.
    LEDGER = (((), ("a",), (), ("a",)), (("t", 0, 2, 1), ("t", 2, 0, 10), ("t", 0, 1, 100), ("t", 2, 3, HUGE), ("t", 3, 1, 5)))

    def test_none_apart(self):
        self.assertEqual(flows(ONE, self.LEDGER), (11, 100 + HUGE, 0, 5))
        self.assertEqual(flows(ONE, self.LEDGER, apart=None), (11, 100 + HUGE, 0, 5))

    def test_each_participant_apart(self):
        # 0 to 0, 1 and 2, 1 to 0, 1 and 2, then the distinguished participant to 0 and to 1.
        self.assertEqual(flows(ONE, self.LEDGER, apart=0), (0, HUGE, 10, 0, 5, 0, 1, 100))
        self.assertEqual(flows(ONE, self.LEDGER, apart=1), (11, HUGE, 100, 0, 0, 5, 0, 0))
        self.assertEqual(flows(ONE, self.LEDGER, apart=2), (0, 100, 1, 0, 5, 0, 10, HUGE))
        self.assertEqual(flows(ONE, self.LEDGER, apart=3), (11, 100, HUGE, 0, 0, 0, 0, 5))

    def test_without_transactions_types_and_participants(self):
        self.assertEqual(flows(ONE, (((), ("a",)), ())), (0, 0, 0, 0))
        self.assertEqual(flows(ONE, ((), ())), (0, 0, 0, 0))
        self.assertEqual(flows((*ONE[:2], (), (), ()), (((),), ())), ())
        self.assertEqual(flows(ONE, (((),), ()), apart=0), (0,) * 8)

    def test_sectors_of_participants_in_any_order(self):
        ledger = ((("home", "firm"), ("firm", "home"), ("home",)), (("wage", 0, 2, 1), ("wage", 1, 2, 2), ("wage", 0, 1, 4)))
        self.assertEqual(flows(MODEL, ledger), (0, 0, 3, 4))
        other = ((("firm", "home"), ("home", "firm"), ("home",)), ledger[1])
        self.assertEqual(flows(MODEL, other), flows(MODEL, ledger))
        self.assertEqual(flows(MODEL, other, apart=0), flows(MODEL, ledger, apart=0))

    def test_apart_is_passed_by_name(self):
        for function in (flows, paired):
            with self.assertRaises(TypeError):
                function(ONE, self.LEDGER, 0)

    def test_flow_times_contribution_gives_the_values(self):
        source = random.Random(90)
        for model, ledger, apart in cases(901, 60):
            flow = flows(model, ledger, apart=apart)
            profile = None if apart is None else profile_of(model, ledger[0][apart])
            self.assertEqual(len(flow), len(unit_transactions(model, profile)))
            self.assertEqual(sum(flow), sum(amount for _, _, _, amount in ledger[1]))
            held = groups_of(model, ledger, apart)
            constraint = things.constraint(source, model)
            # The rows of the premise with the sign 1 tell its contributions.
            conclusion = ("sum", ((1, model[1][0], ("all",)),), ">=")
            if apart is not None:
                people = ("all",)
                conclusion = ("each", people, ((1, model[1][0]),), ">=")
            claim = ((constraint,), conclusion)
            for number, (of, _, rows) in enumerate(obligations(model, claim)):
                if of != profile:
                    continue
                system = system_of(model, claim, number)
                for (_, group, sign), row in zip(rows, system[1]):
                    total = sum(amount * times for amount, times in zip(flow, row))
                    if group is None:
                        self.assertEqual(total, sign * value(model, ledger, constraint))
                    else:
                        told = sum(one for person, one in value(model, ledger, constraint) if held[person] == group)
                        self.assertEqual(total, sign * told)


class MadeTest(unittest.TestCase):
    def test_payer_and_payee_group_the_same(self):
        ledger = made(ONE, None, (HUGE, 0, 0, 0))
        self.assertEqual(ledger, (((), ()), (("t", 0, 1, HUGE), ("t", 1, 0, HUGE))))
        ledger = made(ONE, None, (0, 0, 0, 3))
        self.assertEqual(ledger, ((("a",), ("a",)), (("t", 0, 1, 3), ("t", 1, 0, 3))))

    def test_payer_and_payee_group_different(self):
        ledger = made(ONE, None, (0, 2, 7, 0))
        transactions = (("t", 0, 2, 2), ("t", 1, 3, 2), ("t", 2, 0, 7), ("t", 3, 1, 7))
        self.assertEqual(ledger, (((), (), ("a",), ("a",)), transactions))

    def test_the_distinguished_participant(self):
        # Amounts of 0 to 0, 1 and 2, 1 to 0, 1 and 2, 2 to 0 and 1.
        ledger = made(ONE, 1, (0, 0, 4, 0, 0, 5, 0, 6))
        transactions = (("t", 0, 4, 4), ("t", 1, 4, 4), ("t", 2, 4, 5), ("t", 3, 4, 5), ("t", 4, 2, 6), ("t", 4, 3, 6))
        self.assertEqual(ledger, (((), (), ("a",), ("a",), ("a",)), transactions))
        ledger = made(ONE, 0, (0, 0, 0, 0, 0, 5, 0, 0))
        self.assertEqual(ledger, ((("a",), ("a",), ()), (("t", 0, 2, 5), ("t", 1, 2, 5))))

    def test_all_amounts_0(self):
        self.assertEqual(made(ONE, None, (0, 0, 0, 0)), ((), ()))
        self.assertEqual(made(ONE, 0, (0,) * 8), (((),), ()))
        self.assertEqual(made(ONE, 1, (0,) * 8), ((("a",),), ()))
        self.assertEqual(made((*ONE[:2], (), (), ()), None, ()), ((), ()))
        self.assertEqual(made((*ONE[:2], (), (), ()), 1, ()), ((("a",),), ()))

    def test_names_stand_in_the_order_of_the_model(self):
        self.assertEqual(made(MODEL, 3, (0,) * 7 + (1,))[0][-1], ("home", "firm"))
        self.assertEqual(made(MODEL, None, (0, 0, 0, 1))[0], (("home", "firm"),) * 2)

    def test_by_the_words(self):
        source = random.Random(91)
        for _ in range(200):
            model = things.model(source, 2, (2, 2, 3, 0, 0))
            apart = 2 ** len(model[0])
            for profile in (None, *range(apart)):
                units = unit_transactions(model, profile)
                amounts = tuple(source.choice((0, 0, 1, 3, HUGE)) for _ in units)
                people, transactions = made(model, profile, amounts)
                self.assertIsNone(problem(model, (people, transactions)))
                used = [(unit, amount) for unit, amount in zip(units, amounts) if amount]
                groups = sorted({group for unit, _ in used for group in unit[1:]} - {apart})
                expected = [names_of(model, group) for group in groups for _ in (1, 2)]
                self.assertEqual(people, (*expected, *([] if profile is None else [names_of(model, profile)])))
                firsts = {group: 2 * k for k, group in enumerate(groups)}
                told = iter(transactions)
                for (name, payer, payee), amount in used:
                    for turn in (0, 1):
                        giver = len(people) - 1 if payer == apart else firsts[payer] + turn
                        taker = len(people) - 1 if payee == apart else firsts[payee] + (1 - turn if payer == payee else turn)
                        self.assertEqual(next(told), (name, giver, taker, amount))
                self.assertIsNone(next(told, None))
                last = None if profile is None else len(people) - 1
                self.assertEqual(flows(model, (people, transactions), apart=last), tuple(2 * amount for amount in amounts))


class PairedTest(unittest.TestCase):
    def test_it_is_made_of_the_flows(self):
        for model, ledger, apart in cases(92, 60):
            profile = None if apart is None else profile_of(model, ledger[0][apart])
            self.assertEqual(paired(model, ledger, apart=apart), made(model, profile, flows(model, ledger, apart=apart)))
            self.assertEqual(paired(model, ledger), paired(model, ledger, apart=None))

    def test_balances(self):
        source = random.Random(921)
        for model, ledger, apart in cases(922, 60):
            other = paired(model, ledger, apart=apart)
            self.assertIsNone(problem(model, other))
            rows = balances(model, other)
            ordinary = list(zip(other[0], rows))
            if apart is not None:
                last = ordinary.pop()
                self.assertEqual(last[0], names_of(model, profile_of(model, ledger[0][apart])))
                self.assertEqual(last[1], tuple(2 * number for number in balances(model, ledger)[apart]))
            for names, row in ordinary:
                same = [another for names_too, another in ordinary if names_too == names]
                self.assertEqual(same, [row, row])
            for account in model[1]:
                sector = things.sector(source, model[0])
                total = ("sum", ((1, account, sector),), "=")
                self.assertEqual(value(model, other, total), 2 * value(model, ledger, total))

    def test_a_ledger_that_refutes_a_claim_and_its_paired_one(self):
        source = random.Random(923)
        found = {"sum": 0, "each": 0}
        while min(found.values()) < 40:
            model = things.model(source, 2, (2, 2, 4, 1, 0))
            ledger, claim = things.ledger(source, model, 5, 10), things.claim(source, model, 2, 2, 1)
            if not refutes(model, ledger, claim):
                continue
            found[claim[1][0]] += 1
            aparts = [None]
            if claim[1][0] == "each":
                aparts = [member for member, number in value(model, ledger, claim[1])
                          if number < 0 or (number > 0 and claim[1][-1] == "=")]
                self.assertTrue(aparts)
            for apart in aparts:
                other = paired(model, ledger, apart=apart)
                self.assertTrue(refutes(model, other, claim))
                for premise in premises_of(model, claim):
                    self.assertTrue(satisfies(model, other, premise))

    def test_transactions_of_the_participant_apart(self):
        ledger = (((), ("a",), ()), (("t", 0, 1, 2), ("t", 1, 2, HUGE)))
        self.assertEqual(paired(ONE, ledger, apart=1), (
            ((), (), ("a",)), (("t", 0, 2, 2), ("t", 1, 2, 2), ("t", 2, 0, HUGE), ("t", 2, 1, HUGE)),
        ))
        self.assertEqual(balances(ONE, paired(ONE, ledger, apart=1))[2], (8 - 2 * HUGE, 4))
        claim = read_claim(ONE, "each a: x >= 0")
        self.assertTrue(refutes(ONE, paired(ONE, ledger, apart=1), claim))
        self.assertEqual(value(ONE, ledger, read_constraint(ONE, "each a: x >= 0")), ((1, 4 - HUGE),))


if __name__ == "__main__":
    unittest.main()
