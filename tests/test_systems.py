"""[100] to [103] and the interface's heading `ledgerproof/systems.py`."""

import random
import unittest

import things
from ledgerproof.systems import amount_defect, multiplier_defect, slacks, totals
from printed import check_examples

EXAMPLES = """
>>> from ledgerproof.systems import amount_defect, multiplier_defect, slacks, totals
>>> system = ((-2, 3, 0), ((-1, 1, 0), (0, -2, 5)))
>>> slacks(system, (1, 2, 0))
(0, 1, 0)
>>> multiplier_defect(system, (1, 2, 0)) is None
True
>>> multiplier_defect(system, (1, 4, 0))
('unit', 1)
>>> multiplier_defect(system, (0, 2, -1))
('scale',)
>>> multiplier_defect(system, (1, 2))
('length', 3)
>>> totals(system, (3, 2, 1))
(0, (-1, 1))
>>> amount_defect(system, (3, 3, 1))
('row', 1)
>>> amount_defect(((-2, 3, 0), ((-1, 2, 0),)), (4, 2, 0)) is None
True
"""

SYSTEM = ((-2, 3, 0), ((-1, 1, 0), (0, -2, 5)))
NO_ROWS = ((1, 0, 4), ())
NO_UNITS = ((), ((), (), ()))
NEITHER = ((), ())
HUGE = 10 ** 60 - 1


def random_numbers(source, count, low=-3, high=6):
    return tuple(source.randint(low, high) for _ in range(count))


class PrintedTest(unittest.TestCase):
    def test_examples_of_the_interface(self):
        check_examples(self, EXAMPLES, {})


class MultipliersTest(unittest.TestCase):
    def check(self, system, multipliers, told):
        self.assertEqual(multiplier_defect(system, multipliers), told)

    def test_length(self):
        for multipliers in ((), (1,), (1, 2), (1, 2, 0, 0), (0, -1), (1,) * 20, (-5,)):
            self.check(SYSTEM, multipliers, ("length", 3))
        self.check(NO_ROWS, (), ("length", 1))
        self.check(NO_ROWS, (1, 0), ("length", 1))
        self.check(NO_UNITS, (1, 0, 0), ("length", 4))
        self.check(NEITHER, (1, 1), ("length", 1))

    def test_scale(self):
        self.check(SYSTEM, (0, 2, 0), ("scale",))
        self.check(SYSTEM, (-1, -2, 0), ("scale",))
        self.check(SYSTEM, (-HUGE, 0, 0), ("scale",))
        self.check(NEITHER, (0,), ("scale",))

    def test_negative(self):
        self.check(SYSTEM, (1, -1, 0), ("negative", 0))
        self.check(SYSTEM, (1, 2, -1), ("negative", 1))
        self.check(SYSTEM, (1, -2, -1), ("negative", 0))
        self.check(NO_UNITS, (1, 0, 0, -1), ("negative", 2))

    def test_unit(self):
        self.check(SYSTEM, (1, 1, 0), ("unit", 0))
        self.check(SYSTEM, (1, 4, 0), ("unit", 1))
        self.check(SYSTEM, (1, 2, 1), ("unit", 2))
        self.check(SYSTEM, (HUGE, 2 * HUGE - 1, 0), ("unit", 0))
        self.check(((1, -1, 0), ()), (1,), ("unit", 1))

    def test_valid_ones(self):
        self.check(SYSTEM, (1, 2, 0), None)
        self.check(SYSTEM, (1, 3, 0), None)
        self.check(SYSTEM, (HUGE, 2 * HUGE, 0), None)
        self.check(NO_ROWS, (1,), None)
        self.check(NO_ROWS, (HUGE,), None)
        self.check(NO_UNITS, (3, 0, 7, HUGE), None)
        self.check(NEITHER, (1,), None)

    def test_the_first_of_several(self):
        self.check(SYSTEM, (0, -1), ("length", 3))
        self.check(SYSTEM, (0, -1, -1), ("scale",))
        self.check(SYSTEM, (1, 0, -1), ("negative", 1))
        self.check(SYSTEM, (1, 0, 1), ("unit", 0))

    def test_slacks(self):
        self.assertEqual(slacks(SYSTEM, (0, 0, 0)), (0, 0, 0))
        self.assertEqual(slacks(SYSTEM, (1, 0, 0)), (-2, 3, 0))
        self.assertEqual(slacks(SYSTEM, (0, 1, 0)), (1, -1, 0))
        self.assertEqual(slacks(SYSTEM, (-3, -2, 5)), (4, 3, -25))
        self.assertEqual(slacks(SYSTEM, (HUGE, HUGE, HUGE)), (-HUGE, 4 * HUGE, -5 * HUGE))
        self.assertEqual(slacks(NO_ROWS, (3,)), (3, 0, 12))
        self.assertEqual(slacks(NO_UNITS, (1, 2, 3, 4)), ())
        self.assertEqual(slacks(NEITHER, (1,)), ())


class AmountsTest(unittest.TestCase):
    GOOD = ((-2, 3, 0), ((-1, 2, 0),))

    def check(self, system, amounts, told):
        self.assertEqual(amount_defect(system, amounts), told)

    def test_length(self):
        for amounts in ((), (1,), (1, 2), (1, 2, 0, 0), (-1,) * 20):
            self.check(SYSTEM, amounts, ("length", 3))
        self.check(NO_UNITS, (1,), ("length", 0))
        self.check(NO_ROWS, (), ("length", 3))

    def test_negative(self):
        self.check(self.GOOD, (-1, 2, 0), ("negative", 0))
        self.check(self.GOOD, (4, 2, -1), ("negative", 2))
        self.check(self.GOOD, (4, -2, -1), ("negative", 1))

    def test_row(self):
        self.check(SYSTEM, (2, 1, 5), ("row", 0))
        self.check(SYSTEM, (3, 3, 1), ("row", 1))
        self.check(SYSTEM, (4, 3, 1), ("row", 0))
        self.check(self.GOOD, (HUGE, 0, 0), ("row", 0))

    def test_goal(self):
        self.check(SYSTEM, (0, 0, 0), ("goal",))
        self.check(SYSTEM, (0, 1, 1), ("goal",))
        self.check(SYSTEM, (3, 3, 2), ("goal",))
        self.check(self.GOOD, (0, HUGE, 0), ("goal",))
        self.check(NO_ROWS, (0, 1, 0), ("goal",))
        self.check(NO_UNITS, (), ("goal",))
        self.check(NEITHER, (), ("goal",))

    def test_valid_ones(self):
        self.check(self.GOOD, (4, 2, 0), None)
        self.check(self.GOOD, (2 * HUGE, HUGE, HUGE), None)
        self.check(((0, -1), ()), (5, 1), None)

    def test_the_first_of_several(self):
        self.check(self.GOOD, (-1, 5), ("length", 3))
        self.check(self.GOOD, (5, -1, -1), ("negative", 1))
        self.check(self.GOOD, (9, 0, 0), ("row", 0))
        self.check(((1, 0), ((-1, 0), (-1, 0))), (1, 1), ("row", 0))

    def test_totals(self):
        self.assertEqual(totals(SYSTEM, (0, 0, 0)), (0, (0, 0)))
        self.assertEqual(totals(SYSTEM, (1, 0, 0)), (-2, (-1, 0)))
        self.assertEqual(totals(SYSTEM, (-1, 2, -3)), (8, (3, -19)))
        self.assertEqual(totals(SYSTEM, (HUGE, HUGE, HUGE)), (HUGE, (0, 3 * HUGE)))
        self.assertEqual(totals(NO_ROWS, (1, 2, 3)), (13, ()))
        self.assertEqual(totals(NO_UNITS, ()), (0, (0, 0, 0)))
        self.assertEqual(totals(NEITHER, ()), (0, ()))


class BothTest(unittest.TestCase):
    """[103], over many systems."""

    def test_scale_times_goal(self):
        source = random.Random(103)
        for turn in range(1000):
            system = things.system(source)
            low, high = (-3, 6) if turn % 2 else (-HUGE, HUGE)
            multipliers = random_numbers(source, len(system[1]) + 1, low, high)
            amounts = random_numbers(source, len(system[0]), low, high)
            goal, rows = totals(system, amounts)
            of_rows = sum(times * total for times, total in zip(multipliers[1:], rows))
            of_units = sum(slack * amount for slack, amount in zip(slacks(system, multipliers), amounts))
            self.assertEqual(multipliers[0] * goal, of_rows + of_units)

    def test_no_system_has_both(self):
        source = random.Random(1031)
        found = [0, 0]
        for _ in range(300):
            system = things.system(source, 3, 2, 2)
            drawn = [random_numbers(source, len(system[1]) + 1, 0, 3) for _ in range(30)]
            valid = any(multiplier_defect(system, multipliers) is None for multipliers in drawn)
            drawn = [random_numbers(source, len(system[0]), 0, 3) for _ in range(30)]
            refuted = any(amount_defect(system, amounts) is None for amounts in drawn)
            self.assertFalse(valid and refuted)
            found[0] += valid
            found[1] += refuted
        self.assertGreater(min(found), 30)

    def test_defects_by_the_words(self):
        source = random.Random(101)
        for _ in range(500):
            system = things.system(source)
            multipliers = random_numbers(source, len(system[1]) + 1, -1, 4)
            told = slacks(system, multipliers)
            defects = [("scale",)] * (multipliers[0] < 1)
            defects += [("negative", row) for row, number in enumerate(multipliers[1:]) if number < 0]
            defects += [("unit", unit) for unit, number in enumerate(told) if number < 0]
            self.assertEqual(multiplier_defect(system, multipliers), (defects + [None])[0])
            amounts = random_numbers(source, len(system[0]), -1, 9)
            goal, rows = totals(system, amounts)
            defects = [("negative", unit) for unit, number in enumerate(amounts) if number < 0]
            defects += [("row", row) for row, number in enumerate(rows) if number < 0]
            defects += [("goal",)] * (goal >= 0)
            self.assertEqual(amount_defect(system, amounts), (defects + [None])[0])


if __name__ == "__main__":
    unittest.main()
