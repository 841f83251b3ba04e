"""What the document promises over the whole program: [1], [2], [22], [47], [64], [80], [86], [87], [92], [103], [104],
[123], [131], [133] to [135], [174]."""

import random
import unittest
from fractions import Fraction

import things
from ledgerproof.bounds import bound, raised
from ledgerproof.certificates import first_defect, used
from ledgerproof.cores import causes, core, idle, needed
from ledgerproof.desks import Desk
from ledgerproof.dictionaries import choice, evidence, multipliers, solve, start
from ledgerproof.elimination import by_elimination
from ledgerproof.flows import flows, paired
from ledgerproof.journals import Journal
from ledgerproof.ledgers import minimized, problem, refutes, value
from ledgerproof.models import changed, premises_of
from ledgerproof.obligations import aggregated, obligations, parts, system_of
from ledgerproof.printer import show_claim, show_constraint, show_model, show_script, show_sector
from ledgerproof.questions import read_question, show_question
from ledgerproof.reader import read_claim, read_constraint, read_model, read_script, read_sector
from ledgerproof.sectors import distinguish, profile_of, profiles
from ledgerproof.systems import amount_defect, multiplier_defect, slacks, totals
from ledgerproof.verdicts import confirmed, decide, statuses_of


def cases(seed, count, most=(2, 2, 3, 2, 0)):
    """Models with claims about them, and ledgers of them."""
    source = random.Random(seed)
    for _ in range(count):
        model = things.small_model(source, most)
        yield model, things.small_claim(source, model), things.ledger(source, model, 5, 8, 4)


def refuted_cases(seed, count):
    """Models, claims and ledgers that refute them."""
    source = random.Random(seed)
    found = 0
    while found < count:
        model = things.small_model(source)
        claim, ledger = things.small_claim(source, model, 1), things.ledger(source, model, 6, 10, 4)
        if refutes(model, ledger, claim):
            found += 1
            yield model, claim, ledger


def violating(model, ledger, conclusion):
    """The members for which an each is violated."""
    return [member for member, number in value(model, ledger, conclusion) if number < 0 or (number > 0 and conclusion[-1] == "=")]


class VerdictsTest(unittest.TestCase):
    def test_a_claim_that_holds_is_refuted_by_no_ledger(self):
        # [64], [133], [135]: never are both there.
        found = {"holds": 0, "refuted": 0}
        refuted = 0
        for model, claim, ledger in cases(1, 1500):
            verdict = decide(model, claim)
            found[verdict[0]] += 1
            wrong = refutes(model, ledger, claim)
            refuted += wrong
            self.assertFalse(wrong and verdict[0] == "holds")
            self.assertTrue(confirmed(model, claim, verdict))
            aims = range(len(obligations(model, claim)))
            told = [confirmed(model, claim, ("refuted", number, ledger)) for number in aims]
            # A ledger that refutes the claim refutes one of its parts, and the other way round.
            self.assertEqual(any(told), wrong)
            if verdict[0] == "holds":
                self.assertFalse(any(told))
                self.assertIsNone(first_defect(model, claim, verdict[1]))
            else:
                self.assertTrue(refutes(model, verdict[2], claim))
                self.assertIsNone(problem(model, verdict[2]))
        self.assertGreater(min(refuted, *found.values()), 50)

    def test_paired_ledgers(self):
        # [2], [92]: a small ledger for any ledger that refutes a claim.
        found = {"sum": 0, "each": 0}
        for model, claim, ledger in refuted_cases(2, 150):
            conclusion = claim[1]
            found[conclusion[0]] += 1
            self.assertEqual(decide(model, claim)[0], "refuted")
            aparts = [None] if conclusion[0] == "sum" else violating(model, ledger, conclusion)[:3]
            for apart in aparts:
                small = paired(model, ledger, apart=apart)
                self.assertIsNone(problem(model, small))
                self.assertTrue(refutes(model, small, claim))
                people = small[0] if apart is None else small[0][:-1]
                self.assertLessEqual(max([people.count(names) for names in people], default=0), 2)
        self.assertGreater(min(found.values()), 20)

    def test_flows_of_a_refuting_ledger_are_amounts_of_the_obligation(self):
        for model, claim, ledger in refuted_cases(3, 100):
            aparts = [None] if claim[1][0] == "sum" else violating(model, ledger, claim[1])
            for apart in aparts:
                profile = None if apart is None else profile_of(model, ledger[0][apart])
                systems = [system_of(model, claim, number) for number, aim in enumerate(obligations(model, claim)) if aim[0] == profile]
                flow = flows(model, ledger, apart=apart)
                self.assertIn(None, [amount_defect(system, flow) for system in systems])

    def test_minimized_ledgers(self):
        for model, claim, ledger in refuted_cases(4, 100):
            numbers = minimized(model, ledger, claim)
            left = tuple(ledger[1][number] for number in numbers)
            self.assertTrue(refutes(model, (ledger[0], left), claim))
            for at in range(len(left)):
                self.assertFalse(refutes(model, (ledger[0], (*left[:at], *left[at + 1:])), claim))

    def test_parts_and_the_aggregated_form(self):
        # [80], [86], [87].
        sums = 0
        for model, claim, _ in cases(5, 500):
            verdict = decide(model, claim)
            told = [decide(model, part) for part in parts(model, claim)]
            self.assertEqual(len(told), len(obligations(model, claim)))
            self.assertEqual(all(one[0] == "holds" for one in told), verdict[0] == "holds")
            if verdict[0] == "holds":
                self.assertEqual(tuple(one[1][0] for one in told), verdict[1])
            else:
                self.assertEqual([one[0] for one in told[:verdict[1]]], ["holds"] * verdict[1])
                self.assertEqual(told[verdict[1]], ("refuted", 0, verdict[2]))
            if claim[1][0] == "sum":
                sums += 1
                self.assertEqual(decide(model, aggregated(model, claim)), verdict)
        self.assertGreater(sums, 200)

    def test_by_the_method_and_by_elimination(self):
        # [104], [123].
        found = {"multipliers": 0, "amounts": 0}
        for model, claim, _ in cases(6, 800, (1, 2, 3, 1, 0)):
            for number in range(len(obligations(model, claim))):
                system = system_of(model, claim, number)
                if len(system[0]) <= 8 and len(system[1]) <= 3:
                    last = solve(start(system))
                    word, numbers = by_elimination(system)
                    found[word] += 1
                    self.assertEqual(choice(last)[0], "optimal" if word == "multipliers" else "infeasible")
                    self.assertEqual(evidence(system, last), choice(last)[0])
                    if word == "multipliers":
                        self.assertEqual(numbers, multipliers(last))
                        self.assertIsNone(multiplier_defect(system, numbers))
                    else:
                        self.assertIsNone(amount_defect(system, numbers))
        self.assertGreater(min(found.values()), 100)

    def test_scale_times_goal(self):
        # [103], with the evidence that the program tells.
        for model, claim, ledger in cases(7, 200):
            verdict = decide(model, claim)
            if verdict[0] == "holds" and claim[1][0] == "sum":
                flow = flows(model, ledger)
                for number, told in enumerate(verdict[1]):
                    system = system_of(model, claim, number)
                    goal, rows = totals(system, flow)
                    over = sum(slack * amount for slack, amount in zip(slacks(system, told), flow))
                    self.assertEqual(told[0] * goal, sum(times * total for times, total in zip(told[1:], rows)) + over)

    def test_further_types_and_further_premises(self):
        # [134].
        source = random.Random(8)
        changes = [0, 0]
        for model, claim, _ in cases(81, 600):
            before = decide(model, claim)[0]
            more = things.small_model(source, (len(model[0]), len(model[1]), 3, 0, 0))
            types = tuple(("new" + kind[0], *kind[1:]) for kind in more[2]) if more[:2] == model[:2] else ()
            behind = decide((*model[:2], (*model[2], *types), *model[3:]), claim)[0]
            self.assertFalse(before == "refuted" and behind == "holds")
            changes[0] += before != behind
            premise = things.small_constraint(source, model)
            behind = decide(model, ((premise, *claim[0]), claim[1]))[0]
            self.assertFalse(before == "holds" and behind == "refuted")
            self.assertEqual(decide((*model[:3], (*model[3], ("new", premise)), ()), claim)[0], behind)
            changes[1] += before != behind
        self.assertGreater(min(changes), 10)

    def test_the_order_of_premises_does_not_change_whether_a_claim_holds(self):
        source = random.Random(9)
        for model, claim, _ in cases(91, 200):
            premises = list(premises_of(model, claim))
            source.shuffle(premises)
            self.assertEqual(decide((*model[:3], (), ()), (tuple(premises), claim[1]))[0], decide(model, claim)[0])

    def test_the_used_premises_are_enough_and_the_needed_ones_too(self):
        # [131], [153].
        for model, claim, _ in cases(10, 300):
            verdict = decide(model, claim)
            if verdict[0] == "holds":
                premises = premises_of(model, claim)
                bare = (*model[:3], (), ())
                for numbers in (used(model, claim, verdict[1]), needed(model, claim)):
                    self.assertEqual(decide(bare, (tuple(premises[k] for k in numbers), claim[1]))[0], "holds")

    def test_a_bound_of_0_means_that_the_claim_holds(self):
        # Scaling by another fraction gives claims that are judged alike.
        source = random.Random(11)
        for model, _, _ in cases(111, 200):
            claim = things.small_claim(source, model, 2, "sum", ">=")
            constraint = things.small_constraint(source, model, "sum", ">=")
            told = bound(model, claim, constraint)
            self.assertEqual(told == (0, 1), decide(model, claim)[0] == "holds")
            if told is not None:
                higher = Fraction(*told) + Fraction(1, 7)
                up = raised(claim, constraint, (higher.numerator, higher.denominator))
                again = bound(model, up, constraint)
                self.assertIsNotNone(bound(model, raised(claim, constraint, told), constraint))
                self.assertEqual(bound(model, raised(claim, constraint, told), constraint), (0, 1))
                self.assertTrue(again is None or again >= (0, 1))


class TextsTest(unittest.TestCase):
    def test_the_printed_model_gives_the_same_verdicts(self):
        # [47], [134].
        source = random.Random(12)
        for _ in range(100):
            model = things.small_model(source, (3, 3, 4, 3, 6))
            again = read_model(show_model(model))
            self.assertEqual(again, model)
            self.assertEqual(statuses_of(again), statuses_of(model))
            for name, claim in model[4]:
                self.assertEqual(decide(again, read_claim(again, show_claim(claim))), decide(model, claim))
                question = ("verdict", name)
                self.assertEqual(read_question(again, (show_question(question),)), question)

    def test_printed_forms_are_read_back(self):
        # [47], [80] of texts: everything within the bounds.
        source = random.Random(13)
        for _ in range(150):
            model = things.model(source)
            self.assertEqual(read_model(show_model(model)), model)
            sector, constraint, claim = things.sector(source, model[0]), things.constraint(source, model), things.claim(source, model)
            self.assertEqual(read_sector(model, show_sector(sector)), sector)
            self.assertEqual(read_constraint(model, show_constraint(constraint)), constraint)
            self.assertEqual(read_claim(model, show_claim(claim)), claim)
            script = things.script(source, model, 5)
            self.assertEqual(read_script(model, show_script(script)), script)

    def test_what_the_program_makes_is_read_back(self):
        # Parts and aggregated forms are claims like others, as long as they are within the bounds.
        for model, claim, _ in cases(14, 200):
            made = list(parts(model, claim))
            if claim[1][0] == "sum":
                made.append(aggregated(model, claim))
            for one in made:
                if len(one[0]) <= 4:
                    self.assertEqual(read_claim(model, show_claim(one)), one)

    def test_expressions_that_mean_the_same(self):
        # [22]: they have the same members in every ledger, so claims about them have the same verdict.
        source = random.Random(15)
        same = 0
        for _ in range(600):
            model = things.small_model(source, (2, 1, 3, 0, 0))
            first, second = things.sector(source, model[0], 2), things.sector(source, model[0], 2)
            told = distinguish(model, first, second)
            self.assertEqual(told is None, profiles(model, first) == profiles(model, second))
            account = model[1][0]
            one, other = [((), ("each", sector, ((1, account),), ">=")) for sector in (first, second)]
            people = tuple(() for _ in range(2)) + tuple((name,) for name in model[0]) + (model[0],)
            members = [[k for k, _ in value(model, (people, ()), claim[1])] for claim in (one, other)]
            if told is None:
                same += 1
                self.assertEqual(members[0], members[1])
                self.assertEqual(decide(model, one), decide(model, other))
            else:
                self.assertNotEqual(members[0], members[1])
        self.assertGreater(same, 50)


class EditingTest(unittest.TestCase):
    def test_a_desk_and_a_journal_beside_one_another(self):
        # [174] and [6]: a journal keeps its model whatever becomes of the desk.
        source = random.Random(16)
        for _ in range(30):
            model = things.small_model(source, (2, 2, 3, 1, 3))
            desk = Desk(model)
            people, transactions = things.ledger(source, model, 5, 6)
            journal = Journal(desk.model, participants=people, transactions=transactions)
            before = (journal.model, journal.ledger)
            for _ in range(4):
                script = things.script(source, desk.model, 2)
                desk.apply(show_script(script))
                self.assertEqual(desk.statuses(), tuple((name, decide(desk.model, claim)[0]) for name, claim in desk.model[4]))
            desk.undo(steps=4)
            self.assertEqual((desk.model, desk.statuses()), (model, statuses_of(model)))
            self.assertEqual((journal.model, journal.ledger), before)

    def test_dropping_what_does_not_matter(self):
        # [152], [154], [155] at once.
        for model, claim, _ in cases(17, 200):
            named = (*model[:4], (("me", claim),))
            verdict = decide(named, claim)[0]
            if verdict == "holds":
                kept = core(named, "me")
                script = tuple(("drop", one[0]) for one in model[3] if one[0] not in kept)
            else:
                kept = causes(named, claim)
                script = tuple(("drop", kind[0]) for kind in model[2] if kind[0] not in kept)
                for name in kept:
                    self.assertNotIn(name, idle(named, claim))
            self.assertEqual(statuses_of(changed(named, script)), (("me", verdict),))


if __name__ == "__main__":
    unittest.main()
