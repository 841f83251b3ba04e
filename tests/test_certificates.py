"""[130], [131] with [101], and the interface's heading `ledgerproof/certificates.py`."""

import random
import unittest

import things
from ledgerproof.certificates import first_defect, used
from ledgerproof.dictionaries import choice, multipliers, solve, start
from ledgerproof.models import premises_of
from ledgerproof.obligations import obligations, system_of, unit_transactions
from ledgerproof.reader import read_claim, read_model
from ledgerproof.systems import slacks
from ledgerproof.verdicts import decide
from printed import MODEL, check_examples

EXAMPLES = """
>>> from ledgerproof.certificates import first_defect, used
>>> first_defect(model, covered, ((2, 0, 2, 0, 0),)) is None
True
>>> used(model, covered, ((2, 0, 2, 0, 0),))
(0,)
>>> first_defect(model, covered, ((1, 0, 0, 0, 0),))
('transaction', 0, 'wage', 3, 1)
>>> first_defect(model, covered, ((1, 0, 1, -1, 0), ()))
('obligations', 1)
>>> first_defect(model, covered, ((1, 0, 1, -1, 0),))
('negative', 0, 2)
>>> first_defect(model, fair, ((1, 0), ()))
('length', 1, 2)
>>> first_defect(model, fair, ((1, 0), (1, 0)))
('transaction', 1, 'wage', 2, 4)
"""

COVERED = read_claim(MODEL, "if each firm: cash >= 0, cash of home = 0 then cash of (firm and home) >= 0")
FAIR = read_claim(MODEL, "if cash of all >= 0 then each home and not firm: 2 cash = 0")
HUGE = 10 ** 60 - 1

# Everybody may give x to everybody, and only members of a may get y for nothing.
ONE = read_model("sectors a; accounts x, y; type give: all [-x] to all [x]; type mint: all [] to a [y];")


def cases(seed, count):
    """Models and claims that hold, with the certificates of their verdicts."""
    source = random.Random(seed)
    found = 0
    while found < count:
        model = things.small_model(source)
        claim = things.small_claim(source, model)
        verdict = decide(model, claim)
        if verdict[0] == "holds":
            found += 1
            yield model, claim, verdict[1]


def slow_defect(model, claim, certificate):
    """[130] by its words."""
    found = obligations(model, claim)
    if len(certificate) != len(found):
        return ("obligations", len(found))
    for number, (told, (profile, _, rows)) in enumerate(zip(certificate, found)):
        if len(told) != len(rows) + 1:
            return ("length", number, len(rows) + 1)
        if told[0] < 1:
            return ("scale", number)
        for row, times in enumerate(told[1:]):
            if times < 0:
                return ("negative", number, row)
        for unit, slack in zip(unit_transactions(model, profile), slacks(system_of(model, claim, number), told)):
            if slack < 0:
                return ("transaction", number, *unit)
    return None


class PrintedTest(unittest.TestCase):
    def test_examples_of_the_interface(self):
        check_examples(self, EXAMPLES, {"model": MODEL, "covered": COVERED, "fair": FAIR})


class DefectTest(unittest.TestCase):
    def check(self, model, text, certificate, told):
        claim = read_claim(model, text)
        self.assertEqual(first_defect(model, claim, certificate), told)
        self.assertEqual(slow_defect(model, claim, certificate), told)

    def test_too_few_and_too_many_tuples(self):
        for certificate in ((), ((1,), (1,)), ((1,),) * 20, ((), ()), ((-1,), (0,))):
            self.check(ONE, "x of all >= 0", certificate, ("obligations", 1))
        for certificate in ((), ((1,),), ((1,), (1,), (1,)), ((0,),)):
            self.check(ONE, "x of all = 0", certificate, ("obligations", 2))
        self.check(ONE, "each all: x = 0", ((1,),) * 3, ("obligations", 4))

    def test_tuples_that_are_too_short_too_long_and_empty(self):
        for multipliers in ((), (1, 0), (0, 0), (1,) * 40):
            self.check(ONE, "x of all >= 0", (multipliers,), ("length", 0, 1))
        for multipliers in ((), (1,), (1, 0), (0,), (1, 0, 0, 0), (-1, -1, -1, -1, -1)):
            self.check(ONE, "if x of a = 0 then x of all >= 0", (multipliers,), ("length", 0, 3))
        self.check(ONE, "x of all = 0", ((1,), (1, 1)), ("length", 1, 1))
        self.check(ONE, "x of all = 0", ((1,), ()), ("length", 1, 1))

    def test_scale(self):
        for scale in (0, -1, -HUGE):
            self.check(ONE, "x of all >= 0", ((scale,),), ("scale", 0))
            self.check(ONE, "x of all = 0", ((1,), (scale,)), ("scale", 1))

    def test_negative(self):
        text = "if x of a = 0 then x of all >= 0"
        for times in (-1, -HUGE):
            self.check(ONE, text, ((1, times, 0),), ("negative", 0, 0))
            self.check(ONE, text, ((1, 0, times),), ("negative", 0, 1))
            self.check(ONE, text, ((1, times, times),), ("negative", 0, 0))
        self.check(ONE, "if x of a = 0 then x of all = 0", ((1, 0, 0), (1, 0, -1)), ("negative", 1, 1))

    def test_the_unit_of_a_slack_below_0_without_a_distinguished_participant(self):
        self.check(ONE, "x of a >= 0", ((1,),), ("transaction", 0, "give", 1, 0))
        self.check(ONE, "-x of a >= 0", ((1,),), ("transaction", 0, "give", 0, 1))
        self.check(ONE, "y of all = 0", ((1,), (1,)), ("transaction", 1, "mint", 0, 1))
        self.check(ONE, "if each a: y >= 0 then x of all >= 0", ((1, 1),), ("transaction", 0, "mint", 0, 1))
        self.check(ONE, "if each a: y >= 0 then x of all >= 0", ((HUGE, HUGE),), ("transaction", 0, "mint", 0, 1))

    def test_the_unit_of_a_slack_below_0_with_a_distinguished_participant(self):
        # The distinguished participant is group 2, and it is a member of a in the second obligation only.
        self.check(ONE, "each all: x >= 0", ((1,), (1,)), ("transaction", 0, "give", 2, 0))
        self.check(ONE, "each all: -x >= 0", ((1,), (1,)), ("transaction", 0, "give", 0, 2))
        self.check(ONE, "each all: -y >= 0", ((1,), (1,)), ("transaction", 1, "mint", 0, 2))
        self.check(ONE, "each a: -y >= 0", ((1,),), ("transaction", 0, "mint", 0, 2))
        self.check(ONE, "if each a: y >= 0 then each a: y >= 0", ((1, 0, 0),), None)
        self.check(ONE, "if each a: y >= 0 then each a: y >= 0", ((1, 0, 2),), ("transaction", 0, "mint", 0, 2))
        self.check(ONE, "if each a: y >= 0 then each a: y >= 0", ((1, 1, 1),), ("transaction", 0, "mint", 0, 1))

    def test_the_first_of_several(self):
        text = "if x of a = 0 then x of a = 0"
        good = (1, 1, 0)
        self.check(ONE, text, (good, (1, 0, 1)), None)
        self.check(ONE, text, ((0, -1), (), ()), ("obligations", 2))
        self.check(ONE, text, ((0, -1), ()), ("length", 0, 3))
        self.check(ONE, text, ((0, -1, 0), ()), ("scale", 0))
        self.check(ONE, text, ((1, 0, -1), ()), ("negative", 0, 1))
        self.check(ONE, text, ((1, 0, 0), ()), ("transaction", 0, "give", 1, 0))
        self.check(ONE, text, (good, (0, -1)), ("length", 1, 3))
        self.check(ONE, text, (good, (0, -1, -1)), ("scale", 1))
        self.check(ONE, text, (good, (1, -1, 0)), ("negative", 1, 0))
        self.check(ONE, text, (good, good), ("transaction", 1, "give", 0, 1))

    def test_claims_without_obligations(self):
        for text in ("each none: x >= 0", "if x of a = 0 then each a and not a: x = 0"):
            self.check(ONE, text, (), None)
            self.check(ONE, text, ((),), ("obligations", 0))
            self.check(ONE, text, ((1,), (1,)), ("obligations", 0))

    def test_assumptions_have_rows(self):
        model = read_model("sectors; accounts x; type t: all [] to all [-x]; assume p: x of all >= 0; claim c: x of all >= 0;")
        self.check(model, "x of all >= 0", ((1, 1),), None)
        self.check(model, "x of all >= 0", ((1,),), ("length", 0, 2))
        self.check(model, "x of all >= 0", ((1, 0),), ("transaction", 0, "t", 0, 0))
        self.check(model, "if -x of all = 0 then x of all >= 0", ((1, 0, 0, 1),), None)
        self.check(model, "if -x of all = 0 then x of all >= 0", ((1, 0, 1, 0),), ("transaction", 0, "t", 0, 0))

    def test_integers_of_60_digits(self):
        self.check(ONE, "if x of a >= 0 then 3 x of a >= 0", ((HUGE, 3 * HUGE),), None)
        self.check(ONE, "if x of a >= 0 then 3 x of a >= 0", ((HUGE, 3 * HUGE - 1),), ("transaction", 0, "give", 1, 0))
        self.check(ONE, "if x of a >= 0 then 3 x of a >= 0", ((HUGE, 3 * HUGE + 1),), ("transaction", 0, "give", 0, 1))
        self.check(ONE, "x of all = 0", ((HUGE,), (HUGE,)), None)

    def test_whoever_made_them(self):
        source = random.Random(130)
        counts = {}
        for model, claim, certificate in cases(1301, 250):
            self.assertIsNone(first_defect(model, claim, certificate))
            for _ in range(4):
                told = [list(numbers) for numbers in certificate]
                for numbers in told:
                    if source.random() < 0.7:
                        numbers[source.randrange(len(numbers))] += source.choice((-1, 1, 2))
                    elif source.random() < 0.2:
                        numbers.append(0)
                if source.random() < 0.1:
                    told = told[1:] or [[1]]
                drawn = tuple(tuple(numbers) for numbers in told)
                found = first_defect(model, claim, drawn)
                self.assertEqual(found, slow_defect(model, claim, drawn))
                word = found and found[0]
                counts[word] = counts.get(word, 0) + 1
        self.assertEqual(set(counts), {None, "obligations", "length", "scale", "negative", "transaction"})
        self.assertGreater(min(counts.values()), 10)

    def test_a_valid_certificate_of_a_claim_that_does_not_hold_is_never_found(self):
        source = random.Random(131)
        checked = 0
        while checked < 100:
            model = things.small_model(source)
            claim = things.small_claim(source, model)
            if decide(model, claim)[0] == "refuted":
                checked += 1
                found = obligations(model, claim)
                for _ in range(20):
                    drawn = tuple(tuple([source.randint(1, 3), *[source.randint(0, 3) for _ in rows]]) for _, _, rows in found)
                    self.assertIsNotNone(first_defect(model, claim, drawn))


class UsedTest(unittest.TestCase):
    def check(self, model, text, certificate, told):
        claim = read_claim(model, text)
        self.assertIsNone(first_defect(model, claim, certificate))
        self.assertEqual(used(model, claim, certificate), told)

    def test_sums_with_both_relations(self):
        self.check(ONE, "if x of a >= 0 then x of a >= 0", ((1, 1),), (0,))
        self.check(ONE, "if x of a >= 0 then x of all >= 0", ((1, 0),), ())
        self.check(ONE, "if x of a = 0 then x of a >= 0", ((1, 1, 0),), (0,))
        self.check(ONE, "if x of a = 0 then -x of a >= 0", ((1, 0, 1),), (0,))
        self.check(ONE, "if y of a >= 0, x of a = 0 then x of a = 0", ((1, 0, 1, 0), (1, 0, 0, 1)), (1,))
        # A row that adds nothing is used as well, if its multiplier is not 0.
        self.check(ONE, "if y of none >= 0 then x of all >= 0", ((1, 5),), (0,))

    def test_eaches_with_both_relations(self):
        # The rows are those of the groups 0 and 1, and with a distinguished participant in a of group 2.
        self.check(ONE, "if each all: x >= 0 then x of a >= 0", ((1, 0, 1),), (0,))
        self.check(ONE, "if each all: x = 0 then x of a = 0", ((1, 0, 0, 1, 0), (1, 0, 0, 0, 1)), (0,))
        self.check(ONE, "if y of a >= 0, each a: x >= 0 then each a: x >= 0", ((1, 0, 0, 1),), (1,))
        self.check(ONE, "if each a: x = 0, y of a >= 0 then each a: -x >= 0", ((1, 0, 0, 0, 1, 0),), (0,))

    def test_ascending_and_each_once(self):
        text = "if x of a >= 0, x of not a >= 0, y of a >= 0, x of a >= 0 then x of a + x of a >= 0"
        self.check(ONE, text, ((1, 1, 0, 0, 1),), (0, 3))
        self.check(ONE, text, ((1, 0, 0, 0, 2),), (3,))
        self.check(ONE, text, ((1, 2, 0, 0, 0),), (0,))
        self.check(ONE, text, ((2, 3, 0, 0, 1),), (0, 3))

    def test_in_one_obligation_only_and_in_none(self):
        text = "if -x of a >= 0, x of a >= 0, y of a >= 0 then x of a = 0"
        self.check(ONE, text, ((1, 0, 1, 0), (1, 1, 0, 0)), (0, 1))
        text = "if each not a: y >= 0, each a: x >= 0, each not a: x >= 0 then each all: x >= 0"
        # The first obligation is about a participant outside of a, the second one about a member of a.
        self.check(ONE, text, ((1, 0, 0, 0, 0, 1), (1, 0, 0, 1, 0)), (1, 2))

    def test_assumptions_are_numbered_first(self):
        model = read_model("sectors; accounts x; type t: all [] to all [-x]; assume p: x of all >= 0; assume q: x of all = 0;")
        self.check(model, "if x of all >= 0 then x of all >= 0", ((1, 0, 0, 0, 1),), (2,))
        self.check(model, "if x of all >= 0 then x of all >= 0", ((1, 0, 1, 0, 0),), (1,))
        self.check(model, "x of all >= 0", ((2, 1, 1, 0),), (0, 1))

    def test_claims_without_obligations_and_without_premises(self):
        self.check(ONE, "if x of a = 0 then each none: x = 0", (), ())
        self.check(ONE, "x of all = 0", ((1,), (HUGE,)), ())

    def test_the_claim_holds_with_the_used_premises_alone(self):
        sizes = {}
        for model, claim, certificate in cases(1311, 400):
            numbers = used(model, claim, certificate)
            premises = premises_of(model, claim)
            bare = (*model[:3], (), model[4])
            alone = (tuple(premises[number] for number in numbers), claim[1])
            self.assertEqual(decide(bare, alone)[0], "holds")
            sizes[len(numbers)] = sizes.get(len(numbers), 0) + 1
            for number, (_, _, rows) in enumerate(obligations(model, claim)):
                for (premise, _, _), times in zip(rows, certificate[number][1:]):
                    self.assertTrue(times == 0 or premise in numbers)
            # Each of them has such a row.
            for premise in numbers:
                self.assertTrue(any(
                    row[0] == premise and times != 0
                    for (_, _, rows), numbers_of in zip(obligations(model, claim), certificate)
                    for row, times in zip(rows, numbers_of[1:])
                ))
        self.assertGreater(min(sizes[0], sizes[1], sizes[2]), 10)


class OthersTest(unittest.TestCase):
    def test_certificates_by_hand_from_the_systems(self):
        for model, claim, certificate in cases(1302, 60):
            told = []
            for number in range(len(obligations(model, claim))):
                last = solve(start(system_of(model, claim, number)))
                self.assertEqual(choice(last), ("optimal",))
                told.append(tuple(3 * number for number in multipliers(last)))
            self.assertIsNone(first_defect(model, claim, tuple(told)))
            self.assertEqual(used(model, claim, tuple(told)), used(model, claim, certificate))

    def test_what_was_passed_stays(self):
        certificate = ((1, 0, 1, 0, 0),)
        kept = (eval(repr(MODEL)), eval(repr(COVERED)), eval(repr(certificate)))
        first_defect(MODEL, COVERED, certificate)
        used(MODEL, COVERED, certificate)
        self.assertEqual((MODEL, COVERED, certificate), kept)


if __name__ == "__main__":
    unittest.main()
