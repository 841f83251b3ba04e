"""[3], [132] to [135] with [86], [115] to [117], and the interface's heading `ledgerproof/verdicts.py`."""

import itertools
import random
import unittest
from fractions import Fraction

import things
from ledgerproof.certificates import first_defect
from ledgerproof.dictionaries import amounts, choice, multipliers, solve, start
from ledgerproof.flows import made
from ledgerproof.ledgers import problem, refutes, satisfies
from ledgerproof.models import changed, premises_of
from ledgerproof.obligations import obligations, parts, system_of
from ledgerproof.reader import read_claim, read_model, read_script
from ledgerproof.systems import multiplier_defect
from ledgerproof.verdicts import confirmed, decide, statuses_of
from printed import MODEL, check_examples

POINTS = """
>>> from ledgerproof.reader import read_claim, read_model
>>> from ledgerproof.verdicts import decide
>>> model = read_model("sectors home, firm; accounts cash, debt; type wage: firm [-cash] to home [cash];")
>>> decide(model, read_claim(model, "cash of all = 0"))
('holds', ((1,), (1,)))
>>> decide(model, read_claim(model, "cash of home + cash of firm >= 0"))
('refuted', 0, ((('home',), ('home',), ('home', 'firm'), ('home', 'firm')), (('wage', 2, 0, 1), ('wage', 3, 1, 1))))
>>> decide(model, read_claim(model, "if each firm: cash >= 0 then cash of (firm and home) >= 0"))
('holds', ((1, 0, 1),))
"""

EXAMPLES = """
>>> decide(model, covered)
('holds', ((1, 0, 1, 0, 0),))
>>> decide(model, fair)
('refuted', 1, ((('firm',), ('firm',), ('home',)), (('wage', 0, 2, 1), ('wage', 1, 2, 1))))
>>> from ledgerproof.verdicts import confirmed, statuses_of
>>> confirmed(model, fair, ('refuted', 1, ((('firm',), ('home',)), (('wage', 0, 1, 3),))))
True
>>> confirmed(model, fair, ('refuted', 0, ((('firm',), ('home',)), (('wage', 0, 1, 3),))))
False
>>> confirmed(model, covered, ('holds', ((2, 0, 2, 0, 0),)))
True
>>> statuses_of(read_model("sectors; accounts x; type gift: all [-x] to all [2 x]; claim grow: x of all >= 0; claim even: x of all = 0;"))
(('grow', 'holds'), ('even', 'refuted'))
"""

COVERED = read_claim(MODEL, "if each firm: cash >= 0, cash of home = 0 then cash of (firm and home) >= 0")
FAIR = read_claim(MODEL, "if cash of all >= 0 then each home and not firm: 2 cash = 0")
HUGE = 10 ** 60 - 1

BARE = read_model("sectors; accounts x, y; type gift: all [-x] to all [2 x]; type mint: all [] to all [y];")
ONE = read_model("sectors a; accounts x, y; type give: a [-x] to all [x]; type mint: not a [] to a [y];")


def cases(seed, count):
    source = random.Random(seed)
    for _ in range(count):
        model = things.small_model(source)
        yield model, things.small_claim(source, model)


def slow_decide(model, claim):
    """[132] by its words."""
    lasts = [solve(start(system_of(model, claim, number))) for number in range(len(obligations(model, claim)))]
    stuck = [number for number, last in enumerate(lasts) if choice(last)[0] == "infeasible"]
    if not stuck:
        return ("holds", tuple(multipliers(last) for last in lasts))
    profile = obligations(model, claim)[stuck[0]][0]
    return ("refuted", stuck[0], made(model, profile, amounts(lasts[stuck[0]])))


class PrintedTest(unittest.TestCase):
    def test_examples_of_the_beginning(self):
        check_examples(self, POINTS, {})

    def test_examples_of_the_interface(self):
        names = {"model": MODEL, "covered": COVERED, "fair": FAIR, "decide": decide, "read_model": read_model}
        check_examples(self, EXAMPLES, names)


class DecideTest(unittest.TestCase):
    def check(self, model, text, told):
        claim = read_claim(model, text)
        self.assertEqual(decide(model, claim), told)
        self.assertEqual(slow_decide(model, claim), told)
        self.assertIs(confirmed(model, claim, told), True)
        self.assertIs(refutes(model, told[2], claim) if told[0] == "refuted" else True, True)

    def test_claims_that_hold(self):
        self.check(BARE, "x of all >= 0", ("holds", ((1,),)))
        self.check(BARE, "if 3 x of all >= 0 then 2 x of all >= 0", ("holds", ((1, 0),)))
        self.check(ONE, "x of all = 0", ("holds", ((1,), (1,))))
        self.check(ONE, "if x of a >= 0 then x of a = 0", ("holds", ((1, 1), (1, 0))))
        self.check(ONE, "each not a: x >= 0", ("holds", ((1,),)))
        self.check(ONE, "if each a: 3 x >= 0 then 2 x of a >= 0", ("holds", ((3, 2),)))
        self.check(ONE, "if each a: 3 x >= 0 then each a: 2 x >= 0", ("holds", ((3, 0, 2),)))

    def test_claims_that_do_not_hold(self):
        ledger = (((), (), ("a",), ("a",)), (("give", 2, 0, 1), ("give", 3, 1, 1)))
        self.check(ONE, "x of a >= 0", ("refuted", 0, ledger))
        self.check(ONE, "if y of a >= 0 then x of a >= 0", ("refuted", 0, ledger))
        self.check(ONE, "each a: x - y >= 0", ("refuted", 0, (((), (), ("a",)), (("give", 2, 0, 1), ("give", 2, 1, 1)))))
        self.check(BARE, "x of all = 0", ("refuted", 1, (((), ()), (("gift", 0, 1, 1), ("gift", 1, 0, 1)))))
        self.check(BARE, "if each all: x - y >= 0 then x of all - 2 y of all >= 0", (
            "refuted", 0, (((), ()), (("gift", 0, 1, 1), ("gift", 1, 0, 1), ("mint", 0, 1, 1), ("mint", 1, 0, 1))),
        ))

    def test_the_first_and_a_later_obligation(self):
        ledger = (((), (), ("a",), ("a",)), (("give", 2, 0, 1), ("give", 3, 1, 1)))
        self.check(ONE, "-x of a >= 0", ("holds", ((1,),)))
        self.check(ONE, "-x of a = 0", ("refuted", 1, ledger))
        self.check(ONE, "x of a = 0", ("refuted", 0, ledger))
        told = decide(ONE, read_claim(ONE, "each all: x >= 0"))
        self.assertEqual(told[:2], ("refuted", 1))
        told = decide(ONE, read_claim(ONE, "if each a: x >= 0 then each all: -y = 0"))
        self.assertEqual(told[:2], ("refuted", 2))
        told = decide(ONE, read_claim(ONE, "if each a: x = 0, each not a: x >= 0 then each all: y - x = 0"))
        self.assertEqual(told[:2], ("refuted", 3))

    def test_claims_without_obligations(self):
        self.check(ONE, "each none: x = 0", ("holds", ()))
        self.check(ONE, "if x of a = 0 then each a and not a: x >= 0", ("holds", ()))

    def test_models_without_types(self):
        for model in (read_model("sectors; accounts x;"), read_model("sectors a, b, c; accounts x;")):
            self.check(model, "x of all = 0", ("holds", ((1,), (1,))))
            self.check(model, "if x of all >= 0, -x of all >= 0 then -x of all >= 0", ("holds", ((1, 0, 0),)))
            everybody = 2 ** len(model[0])
            self.check(model, "each all: x >= 0", ("holds", ((1,),) * everybody))
            self.check(model, "if each all: x >= 0 then each all: -x >= 0", ("holds", ((1, *[0] * (everybody + 1)),) * everybody))

    def test_models_without_sectors(self):
        self.check(BARE, "each all: x >= 0", ("refuted", 0, (((), (), ()), (("gift", 2, 0, 1), ("gift", 2, 1, 1)))))
        self.check(BARE, "if each all: x >= 0 then each all: x >= 0", ("holds", ((1, 0, 1),)))
        self.check(BARE, "each all: y >= 0", ("holds", ((1,),)))
        self.check(BARE, "each none: y = 0", ("holds", ()))

    def test_types_whose_sectors_have_no_profile(self):
        model = read_model("sectors a; accounts x; type t: none [-x] to all [-x]; type u: all [-x] to a and not a [];")
        self.check(model, "x of all = 0", ("holds", ((1,), (1,))))
        self.check(model, "each all: x = 0", ("holds", ((1,),) * 4))
        self.check(model, "if x of a >= 0 then x of all >= 0", ("holds", ((1, 0),)))
        model = read_model("sectors a; accounts x; type t: none [-x] to all [-x]; type u: all [] to a [-x];")
        ledger = (((), (), ("a",), ("a",)), (("u", 0, 2, 1), ("u", 1, 3, 1)))
        self.check(model, "x of all = 0", ("refuted", 0, ledger))

    def test_assumptions_and_own_premises(self):
        model = changed(ONE, read_script(ONE, "assume p: x of a >= 0; assume q: each a: y = 0;"))
        self.check(model, "2 x of a >= 0", ("holds", ((1, 2, 0, 0),)))
        self.check(model, "if 3 x of a >= 0 then 2 x of a >= 0", ("holds", ((3, 0, 0, 0, 2),)))
        self.check(model, "y of all = 0", ("holds", ((1, 0, 0, 0), (1, 0, 0, 1))))
        self.check(model, "each a: y = 0", ("holds", ((1, 0, 0, 0, 0, 0), (1, 0, 0, 0, 0, 1))))
        self.assertEqual(decide(model, read_claim(model, "each a: x >= 0"))[0], "refuted")
        self.assertEqual(decide(ONE, read_claim(ONE, "y of all = 0"))[0], "refuted")

    def test_a_claim_with_fractions(self):
        self.check(BARE, "if 2 x of all - 3 y of all >= 0, 5 y of all - x of all >= 0 then y of all >= 0", ("holds", ((1, 0, 0),)))
        model = read_model("sectors; accounts x; type t: all [] to all [x]; type u: all [-x] to all [];")
        self.check(model, "if 2 x of all >= 0 then x of all >= 0", ("holds", ((2, 1),)))
        self.check(model, "if 4 x of all >= 0, 6 x of all = 0 then 9 x of all >= 0", ("holds", ((2, 0, 3, 0),)))

    def test_the_largest_amounts_are_told_as_they_are(self):
        model = read_model("sectors; accounts x, y; type t: all [-9999 x] to all [y]; type u: all [x] to all [-9998 y];")
        told = decide(model, read_claim(model, "if x of all = 0 then y of all >= 0"))
        self.assertEqual(told, ("refuted", 0, (((), ()), (("t", 0, 1, 1), ("t", 1, 0, 1), ("u", 0, 1, 9999), ("u", 1, 0, 9999)))))

    def test_by_the_words(self):
        found = {"holds": 0, "refuted": 0}
        for model, claim in cases(132, 400):
            verdict = decide(model, claim)
            self.assertEqual(verdict, slow_decide(model, claim))
            found[verdict[0]] += 1
        self.assertGreater(min(found.values()), 50)

    def test_what_was_passed_stays(self):
        kept = (eval(repr(MODEL)), eval(repr(FAIR)))
        decide(MODEL, FAIR)
        statuses_of(MODEL)
        self.assertEqual((MODEL, FAIR), kept)


def ledgers_of(model, people, many):
    """All ledgers with these participants and at most so many transactions of the amounts 1 and 2."""
    numbers = range(len(people))
    units = [
        (kind[0], payer, payee, amount) for kind in model[2] for payer in numbers for payee in numbers for amount in (1, 2)
        if payer != payee and things.holds_for(people[payer], model[0], kind[1])
        and things.holds_for(people[payee], model[0], kind[3])
    ]
    for size in range(many + 1):
        for chosen in itertools.combinations(units, size):
            yield (people, chosen)


class EvidenceTest(unittest.TestCase):
    """[133], over many drawn models and claims."""

    def test_ledgers_that_are_told(self):
        found = {}
        for model, claim in cases(133, 1000):
            verdict = decide(model, claim)
            if verdict[0] == "holds":
                continue
            _, number, ledger = verdict
            profile, _, rows = obligations(model, claim)[number]
            found[profile is None, number > 0] = True
            self.assertIsNone(problem(model, ledger))
            self.assertTrue(refutes(model, ledger, claim))
            self.assertTrue(refutes(model, ledger, parts(model, claim)[number]))
            for premise in premises_of(model, claim):
                self.assertTrue(satisfies(model, ledger, premise))
            people = ledger[0] if profile is None else ledger[0][:-1]
            for names in people:
                self.assertLessEqual(people.count(names), 2)
            self.assertLessEqual(len(ledger[1]), 2 * (len(rows) + 1))
            for earlier in range(number):
                self.assertEqual(choice(solve(start(system_of(model, claim, earlier)))), ("optimal",))
            self.assertEqual(choice(solve(start(system_of(model, claim, number))))[0], "infeasible")
        self.assertEqual(len(found), 4)

    def test_certificates_that_are_told(self):
        for model, claim in cases(1331, 400):
            verdict = decide(model, claim)
            if verdict[0] == "holds":
                self.assertIsNone(first_defect(model, claim, verdict[1]))
                self.assertEqual(len(verdict[1]), len(obligations(model, claim)))

    def test_no_certificate_with_smaller_multipliers_is_valid(self):
        checked = 0
        for model, claim in cases(1332, 1000):
            verdict = decide(model, claim)
            if verdict[0] == "refuted":
                continue
            for number, told in enumerate(verdict[1]):
                system = system_of(model, claim, number)
                if 0 < len(system[1]) <= 3:
                    checked += any(told[1:])
                    least = [Fraction(one, told[0]) for one in told[1:]]
                    for drawn in itertools.product((1, 2, 3), *[range(4)] * len(system[1])):
                        if [Fraction(one, drawn[0]) for one in drawn[1:]] < least:
                            self.assertIsNotNone(multiplier_defect(system, drawn))
        self.assertGreater(checked, 30)

    def test_no_small_ledger_refutes_a_claim_that_holds(self):
        source = random.Random(1333)
        checked = 0
        while checked < 60:
            model = things.small_model(source, (1, 2, 2, 1, 0))
            claim = things.small_claim(source, model, 2)
            if model[2] and decide(model, claim)[0] == "holds":
                checked += 1
                people = ((), (), *[(name,) for name in model[0]])
                for ledger in ledgers_of(model, people, 2):
                    self.assertFalse(refutes(model, ledger, claim))

    def test_a_claim_that_a_small_ledger_refutes_is_refuted(self):
        source = random.Random(1334)
        found = 0
        for _ in range(2000):
            model = things.small_model(source)
            claim = things.small_claim(source, model)
            if refutes(model, things.ledger(source, model, 4, 6, 3), claim):
                found += 1
                self.assertEqual(decide(model, claim)[0], "refuted")
        self.assertGreater(found, 50)


class StatusesTest(unittest.TestCase):
    def test_models_without_claims(self):
        for model in (BARE, ONE, MODEL, read_model("sectors; accounts x; assume p: x of all = 0;")):
            self.assertEqual(statuses_of(model), ())

    def test_claims_in_their_order(self):
        claims = "claim z: x of all = 0; claim a: x of a >= 0; claim m: each none: x = 0; claim b: y of all = 0;"
        model = changed(ONE, read_script(ONE, claims))
        self.assertEqual(statuses_of(model), (("z", "holds"), ("a", "refuted"), ("m", "holds"), ("b", "refuted")))
        other = (*model[:4], model[4][::-1])
        self.assertEqual(statuses_of(other), statuses_of(model)[::-1])

    def test_a_further_type(self):
        model = changed(ONE, read_script(ONE, "claim z: x of all = 0; claim y: y of all >= 0; claim a: x of a >= 0;"))
        self.assertEqual(statuses_of(model), (("z", "holds"), ("y", "holds"), ("a", "refuted")))
        further = changed(model, read_script(model, "type burn: a [-x] to all [];"))
        self.assertEqual(statuses_of(further), (("z", "refuted"), ("y", "holds"), ("a", "refuted")))

    def test_a_further_assumption(self):
        model = changed(ONE, read_script(ONE, "claim z: x of all = 0; claim a: x of a >= 0; claim y: y of a = 0;"))
        further = changed(model, read_script(model, "assume p: each a: x = 0;"))
        self.assertEqual(statuses_of(model), (("z", "holds"), ("a", "refuted"), ("y", "refuted")))
        self.assertEqual(statuses_of(further), (("z", "holds"), ("a", "holds"), ("y", "refuted")))

    def test_another_claim(self):
        model = changed(ONE, read_script(ONE, "claim a: x of a >= 0;"))
        further = changed(model, read_script(model, "claim b: x of a >= 0; claim c: if x of a >= 0 then x of a >= 0;"))
        self.assertEqual(statuses_of(further), (("a", "refuted"), ("b", "refuted"), ("c", "holds")))

    def test_over_many_models(self):
        source = random.Random(134)
        changes = [0, 0]
        for _ in range(150):
            model = things.small_model(source, (2, 2, 4, 2, 5))
            told = statuses_of(model)
            self.assertEqual(told, tuple((name, decide(model, claim)[0]) for name, claim in model[4]))
            fewer = (*model[:2], model[2][:-1], *model[3:])
            for (name, before), (other, behind) in zip(statuses_of(fewer), told):
                self.assertEqual(name, other)
                self.assertFalse(before == "refuted" and behind == "holds")
                changes[0] += before != behind
            weaker = (*model[:3], model[3][:-1], model[4])
            for (name, before), (_, behind) in zip(statuses_of(weaker), told):
                self.assertFalse(before == "holds" and behind == "refuted")
                changes[1] += before != behind
            for number in range(len(model[4])):
                alone = (*model[:4], (model[4][number],))
                self.assertEqual(statuses_of(alone), (told[number],))
        self.assertGreater(min(changes), 10)


class ConfirmedTest(unittest.TestCase):
    PAID = ((("firm",), ("home",)), (("wage", 0, 1, 3),))

    def check(self, model, claim, verdict, told):
        self.assertIs(confirmed(model, claim, verdict), told)

    def test_certificates(self):
        self.check(MODEL, COVERED, ("holds", ((1, 0, 1, 0, 0),)), True)
        self.check(MODEL, COVERED, ("holds", ((HUGE, 0, HUGE, 0, 0),)), True)
        self.check(MODEL, COVERED, ("holds", ((1, 0, 1, 4, 4),)), True)
        for wrong in ((), ((1, 0, 1, 0),), ((0, 0, 1, 0, 0),), ((1, 0, 1, -1, -1),), ((2, 0, 1, 0, 0),), ((1, 0, 1, 0, 0),) * 2):
            self.check(MODEL, COVERED, ("holds", wrong), False)
        self.check(MODEL, FAIR, ("holds", ((1, 0), (1, 0))), False)
        empty = read_claim(MODEL, "each none: cash = 0")
        self.check(MODEL, empty, ("holds", ()), True)
        self.check(MODEL, empty, ("holds", ((1,),)), False)

    def test_obligations_that_are_not_there(self):
        for number in (-1, -2, 2, 3, 10 ** 6, -10 ** 6, HUGE, -HUGE):
            self.check(MODEL, FAIR, ("refuted", number, self.PAID), False)
        self.check(MODEL, FAIR, ("refuted", 1, self.PAID), True)
        empty = read_claim(MODEL, "each none: cash = 0")
        for number in (-1, 0, 1):
            self.check(MODEL, empty, ("refuted", number, self.PAID), False)
        one = read_claim(MODEL, "cash of firm >= 0")
        self.check(MODEL, one, ("refuted", 0, self.PAID), True)
        self.check(MODEL, one, ("refuted", -1, self.PAID), False)
        self.check(MODEL, one, ("refuted", 1, self.PAID), False)

    def test_pairs_that_are_no_ledgers(self):
        claim = read_claim(MODEL, "cash of firm >= 0")
        people, good = self.PAID[0], self.PAID[1][0]
        self.check(MODEL, claim, ("refuted", 0, (people, (good,))), True)
        for more in (("bank",), ("home", "home"), ("Home",), ("",)):
            self.check(MODEL, claim, ("refuted", 0, ((*people, more), (good,))), False)
        for bad in (
            ("pay", 0, 1, 1), ("wage", 2, 1, 1), ("wage", -1, 1, 1), ("wage", 0, 2, 1), ("wage", 0, -1, 1), ("wage", 0, 0, 1),
            ("wage", 1, 0, 1), ("wage", 0, 1, 0), ("wage", 0, 1, -5),
        ):
            self.check(MODEL, claim, ("refuted", 0, (people, (good, bad))), False)
        two = (("firm",), ("home",), ("firm",))
        self.check(MODEL, claim, ("refuted", 0, (two, (good, ("wage", 0, 2, 1)))), False)
        self.check(MODEL, claim, ("refuted", 0, (two, (good, ("wage", 2, 1, HUGE)))), True)

    def test_ledgers_that_do_not_refute(self):
        claim = read_claim(MODEL, "if cash of home >= 0 then cash of firm >= 0")
        self.check(MODEL, claim, ("refuted", 0, self.PAID), True)
        self.check(MODEL, claim, ("refuted", 0, (self.PAID[0], ())), False)
        self.check(MODEL, claim, ("refuted", 0, ((), ())), False)
        other = read_claim(MODEL, "if cash of home = 0 then cash of firm >= 0")
        self.check(MODEL, other, ("refuted", 0, self.PAID), False)

    def test_ledgers_that_refute_the_claim_and_not_the_part(self):
        equal = read_claim(MODEL, "cash of firm = 0")
        self.assertTrue(refutes(MODEL, self.PAID, equal))
        self.check(MODEL, equal, ("refuted", 0, self.PAID), True)
        self.check(MODEL, equal, ("refuted", 1, self.PAID), False)
        # The obligations are about the profiles 0 to 3, each one with both signs, and profile 2 has paid.
        each = read_claim(MODEL, "each all: cash = 0")
        self.assertTrue(refutes(MODEL, self.PAID, each))
        told = [confirmed(MODEL, each, ("refuted", number, self.PAID)) for number in range(8)]
        self.assertEqual(told, [False, False, False, True, True, False, False, False])

    def test_premises_count_for_the_part(self):
        model = changed(MODEL, read_script(MODEL, "assume p: cash of home >= 0;"))
        claim = read_claim(MODEL, "each firm: cash >= 0")
        self.check(model, claim, ("refuted", 0, self.PAID), True)
        model = changed(MODEL, read_script(MODEL, "assume p: -cash of home >= 0;"))
        self.check(model, claim, ("refuted", 0, self.PAID), False)

    def test_verdicts_of_the_other_kind(self):
        self.check(MODEL, FAIR, ("holds", ((1, 0), (1, 2))), False)
        self.check(MODEL, COVERED, ("refuted", 0, self.PAID), False)

    def test_the_verdict_itself(self):
        found = {"holds": 0, "refuted": 0}
        for model, claim in cases(135, 400):
            verdict = decide(model, claim)
            found[verdict[0]] += 1
            self.check(model, claim, verdict, True)
            if verdict[0] == "refuted":
                told = [confirmed(model, claim, ("refuted", number, verdict[2])) for number in range(len(obligations(model, claim)))]
                expected = [refutes(model, verdict[2], part) for part in parts(model, claim)]
                self.assertEqual(told, expected)
        self.assertGreater(min(found.values()), 50)

    def test_never_both(self):
        source = random.Random(1351)
        found = {True: 0, False: 0}
        for model, claim in cases(1352, 400):
            aims = obligations(model, claim)
            drawn = [("holds", tuple(tuple([source.randint(1, 2), *[source.randint(0, 2) for _ in rows]]) for _, _, rows in aims))
                     for _ in range(10)]
            valid = any(confirmed(model, claim, verdict) for verdict in drawn)
            ledgers = [things.ledger(source, model, 4, 5, 3) for _ in range(5)]
            wrong = any(confirmed(model, claim, ("refuted", number, one)) for one in ledgers for number in range(len(aims)))
            self.assertFalse(valid and wrong)
            if valid or wrong:
                found[valid] += 1
                self.assertEqual(decide(model, claim)[0], "holds" if valid else "refuted")
        self.assertGreater(min(found.values()), 20)


if __name__ == "__main__":
    unittest.main()
