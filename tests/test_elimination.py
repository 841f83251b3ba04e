"""[120] to [123] and the interface's heading `ledgerproof/elimination.py`."""

import math
import random
import unittest
from fractions import Fraction

import things
from ledgerproof.dictionaries import choice, multipliers, solve, start
from ledgerproof.elimination import by_elimination, eliminated, first_inequalities, levels, wrong_inequality
from ledgerproof.systems import amount_defect, multiplier_defect
from printed import check_examples

EXAMPLES = """
>>> from ledgerproof.elimination import by_elimination, eliminated, first_inequalities, levels, wrong_inequality
>>> first_inequalities(stuck)
((0, (1,), (1, 0, 0)), (-2, (1,), (0, 1, 0)), (3, (-2,), (0, 0, 1)))
>>> eliminated(first_inequalities(stuck), 0)
((3, (0,), (2, 0, 1)), (-1, (0,), (0, 2, 1)))
>>> by_elimination(stuck)
('amounts', (2, 1))
>>> by_elimination(system)
('multipliers', (1, 2, 0))
>>> levels(system)[0]
((0, (0, 0), (0, 5, 0, 0, 1)), (15, (0, 0), (5, 0, 0, 5, 2)), (5, (0, 0), (0, 0, 5, 5, 2)))
>>> wrong_inequality(stuck, ((3, (0,), (2, 0, 1)), (0, (0,), (0, 2, 1))))
1
"""

SYSTEM = ((-2, 3, 0), ((-1, 1, 0), (0, -2, 5)))
STUCK = ((-2, 3), ((-1, 2),))
NO_ROWS = ((1, 0, 4), ())
NO_UNITS = ((), ((), (), ()))
NEITHER = ((), ())
HUGE = 10 ** 60 - 1


def systems(seed, count, *sizes):
    source = random.Random(seed)
    for _ in range(count):
        yield things.system(source, *sizes)


def flat(inequality):
    return (inequality[0], *inequality[1], *inequality[2])


def slow_eliminated(inequalities, number):
    """[121] by its words."""
    told = [one for one in inequalities if one[1][number] == 0]
    for a in inequalities:
        p = a[1][number]
        for b in inequalities:
            q = -b[1][number]
            if p > 0 and q > 0:
                numbers = [x * q + y * p for x, y in zip(flat(a), flat(b))]
                common = math.gcd(*numbers) or 1
                numbers = [one // common for one in numbers]
                cut = 1 + len(a[1])
                told.append((numbers[0], tuple(numbers[1:cut]), tuple(numbers[cut:])))
    return tuple(told)


def means_the_same(system, inequality):
    """[120]: constant and coefficients are those of the weighted sum of the definitions of [110]."""
    goal, rows = system
    constant, coefficients, weights = inequality
    slack_weights = weights[len(rows):]
    said = sum(weight * number for weight, number in zip(slack_weights, goal))
    parts = [
        weights[k] - sum(weight * number for weight, number in zip(slack_weights, row)) for k, row in enumerate(rows)
    ]
    return (constant, list(coefficients)) == (said, parts)


class InequalityTest(unittest.TestCase):
    def check_form(self, system, inequalities):
        self.assertIs(type(inequalities), tuple)
        goal, rows = system
        for inequality in inequalities:
            constant, coefficients, weights = inequality
            self.assertEqual([type(part) for part in (inequality, coefficients, weights)], [tuple] * 3)
            self.assertEqual((len(coefficients), len(weights)), (len(rows), len(rows) + len(goal)))
            for number in flat(inequality):
                self.assertIs(type(number), int)
            self.assertGreaterEqual(min(weights, default=0), 0)


class PrintedTest(unittest.TestCase):
    def test_examples_of_the_interface(self):
        check_examples(self, EXAMPLES, {"system": SYSTEM, "stuck": STUCK})


class FirstTest(InequalityTest):
    def test_every_variable(self):
        self.assertEqual(first_inequalities(SYSTEM), (
            (0, (1, 0), (1, 0, 0, 0, 0)),
            (0, (0, 1), (0, 1, 0, 0, 0)),
            (-2, (1, 0), (0, 0, 1, 0, 0)),
            (3, (-1, 2), (0, 0, 0, 1, 0)),
            (0, (0, -5), (0, 0, 0, 0, 1)),
        ))

    def test_without_rows_and_without_units(self):
        self.assertEqual(first_inequalities(NO_ROWS), ((1, (), (1, 0, 0)), (0, (), (0, 1, 0)), (4, (), (0, 0, 1))))
        self.assertEqual(first_inequalities(NO_UNITS), (
            (0, (1, 0, 0), (1, 0, 0)), (0, (0, 1, 0), (0, 1, 0)), (0, (0, 0, 1), (0, 0, 1)),
        ))
        self.assertEqual(first_inequalities(NEITHER), ())

    def test_over_many_systems(self):
        for system in systems(120, 200, 6, 3):
            told = first_inequalities(system)
            self.check_form(system, told)
            self.assertEqual(len(told), len(system[0]) + len(system[1]))
            for variable, inequality in enumerate(told):
                self.assertEqual(inequality[2], tuple(int(k == variable) for k in range(len(told))))
                self.assertTrue(means_the_same(system, inequality))

    def test_great_integers(self):
        told = first_inequalities(((10 ** 9, -10 ** 9), ((-10 ** 9, 1),)))
        self.assertEqual(told, ((0, (1,), (1, 0, 0)), (10 ** 9, (10 ** 9,), (0, 1, 0)), (-10 ** 9, (-1,), (0, 0, 1))))


class WrongTest(InequalityTest):
    RIGHT = first_inequalities(SYSTEM)

    def changed(self, number, part, place, by):
        """The first inequalities with one number of one of them changed."""
        inequality = [self.RIGHT[number][0], list(self.RIGHT[number][1]), list(self.RIGHT[number][2])]
        if part == 0:
            inequality[0] += by
        else:
            inequality[part][place] += by
        return tuple(
            (inequality[0], tuple(inequality[1]), tuple(inequality[2])) if k == number else one
            for k, one in enumerate(self.RIGHT)
        )

    def test_right_ones(self):
        self.assertIsNone(wrong_inequality(SYSTEM, self.RIGHT))
        self.assertIsNone(wrong_inequality(SYSTEM, ()))
        for system in (STUCK, NO_ROWS, NO_UNITS, NEITHER):
            self.assertIsNone(wrong_inequality(system, first_inequalities(system)))

    def test_a_wrong_constant(self):
        for number in range(5):
            for by in (1, -1, HUGE):
                self.assertEqual(wrong_inequality(SYSTEM, self.changed(number, 0, None, by)), number)

    def test_a_wrong_coefficient_of_each_multiplier(self):
        for number in range(5):
            for place in range(2):
                for by in (1, -1, HUGE):
                    self.assertEqual(wrong_inequality(SYSTEM, self.changed(number, 1, place, by)), number)

    def test_a_wrong_weight(self):
        for number in range(5):
            for place in range(5):
                for by in (1, HUGE):
                    self.assertEqual(wrong_inequality(SYSTEM, self.changed(number, 2, place, by)), number)

    def test_a_wrong_weight_that_says_nothing(self):
        # The slack of a unit with 0 everywhere is 0, so any weight of it is right.
        system = ((1, 0), ((2, 0),))
        self.assertIsNone(wrong_inequality(system, ((1, (-2,), (0, 1, 0)), (1, (-2,), (0, 1, 7)), (0, (0,), (0, 0, HUGE)))))

    def test_the_first_of_several(self):
        wrong = (7, (0, 0), (0, 0, 0, 0, 0))
        for places in ((4, 2), (0, 4), (1, 2, 3), (3,)):
            drawn = tuple(wrong if k in places else one for k, one in enumerate(self.RIGHT))
            self.assertEqual(wrong_inequality(SYSTEM, drawn), min(places))
        self.assertEqual(wrong_inequality(SYSTEM, self.RIGHT * 7 + (wrong, wrong)), 35)

    def test_combinations_are_right(self):
        source = random.Random(1201)
        for system in systems(1202, 150, 6, 3):
            first = first_inequalities(system)
            told = []
            for _ in range(10):
                weights = tuple(source.choice((0, 1, source.randint(0, 9), HUGE)) for _ in first)
                constant = sum(weight * one[0] for weight, one in zip(weights, first))
                parts = [sum(weight * one[1][k] for weight, one in zip(weights, first)) for k in range(len(system[1]))]
                told.append((constant, tuple(parts), weights))
            self.assertIsNone(wrong_inequality(system, tuple(told)))
            number = source.randrange(10)
            constant, coefficients, weights = told[number]
            told[number] = (constant + 1, coefficients, weights)
            self.assertEqual(wrong_inequality(system, tuple(told)), number)

    def test_without_rows_and_without_units(self):
        self.assertIsNone(wrong_inequality(NO_ROWS, ((9, (), (1, 5, 2)),)))
        self.assertEqual(wrong_inequality(NO_ROWS, ((9, (), (1, 5, 2)), (8, (), (1, 5, 2)))), 1)
        self.assertIsNone(wrong_inequality(NO_UNITS, ((0, (4, 0, 1), (4, 0, 1)),)))
        self.assertEqual(wrong_inequality(NO_UNITS, ((0, (4, 1, 1), (4, 0, 1)),)), 0)
        self.assertIsNone(wrong_inequality(NEITHER, ((0, (), ()),)))
        self.assertEqual(wrong_inequality(NEITHER, ((0, (), ()), (1, (), ()))), 1)

    def test_by_the_words(self):
        source = random.Random(1203)
        found = [0, 0]
        for system in systems(1204, 400, 4, 3, 1):
            weights = tuple(source.randint(0, 1) for _ in range(len(system[0]) + len(system[1])))
            inequality = (source.randint(-1, 1), tuple(source.randint(-1, 1) for _ in system[1]), weights)
            right = means_the_same(system, inequality)
            found[right] += 1
            self.assertEqual(wrong_inequality(system, (inequality,)), None if right else 0)
        self.assertGreater(min(found), 10)


class EliminatedTest(InequalityTest):
    def test_coefficients_0_stay_as_they_are(self):
        told = ((4, (0, 2), (2, 0)), (0, (0, 0), (0, 0)), (-6, (0, -4), (0, 8)))
        self.assertEqual(eliminated(told, 0), told)

    def test_coefficients_of_one_sign_only(self):
        up, down = (1, (3,), (1, 0)), (2, (-5,), (0, 1))
        self.assertEqual(eliminated((up, up), 0), ())
        self.assertEqual(eliminated((down,), 0), ())
        self.assertEqual(eliminated((), 0), ())
        still = (2, (0,), (4, 4))
        self.assertEqual(eliminated((up, still), 0), (still,))
        self.assertEqual(eliminated((still, down, still), 0), (still, still))

    def test_the_combination(self):
        # 5 times the first one and 3 times the second one: 11, (0, 2), (5, 3, 10).
        told = eliminated(((1, (3, 1), (1, 0, 2)), (2, (-5, -1), (0, 1, 0))), 0)
        self.assertEqual(told, ((11, (0, 2), (5, 3, 10)),))
        self.assertEqual(eliminated(((2, (-5, -1), (0, 1, 0)), (1, (3, 1), (1, 0, 2))), 0), told)
        # By the other multiplier both are added as they are.
        self.assertEqual(eliminated(((1, (3, 1), (1, 0, 2)), (2, (-5, -1), (0, 1, 0))), 1), ((3, (-2, 0), (1, 1, 2)),))

    def test_the_order(self):
        told = (
            (1, (2,), (1, 0, 0, 0, 0, 0)), (10, (-1,), (0, 1, 0, 0, 0, 0)), (100, (0,), (0, 0, 1, 0, 0, 0)),
            (1000, (-3,), (0, 0, 0, 1, 0, 0)), (10000, (1,), (0, 0, 0, 0, 1, 0)), (100000, (0,), (0, 0, 0, 0, 0, 1)),
        )
        self.assertEqual(eliminated(told, 0), (
            told[2], told[5],
            (21, (0,), (1, 2, 0, 0, 0, 0)), (2003, (0,), (3, 0, 0, 2, 0, 0)),
            (10010, (0,), (0, 1, 0, 0, 1, 0)), (31000, (0,), (0, 0, 0, 1, 3, 0)),
        ))

    def test_common_divisors(self):
        # 4 and 6 times: 24, (0,), (4, 6), divided by 2.
        self.assertEqual(eliminated(((3, (6,), (1, 0)), (2, (-4,), (0, 1))), 0), ((12, (0,), (2, 3)),))
        self.assertEqual(eliminated(((5, (5,), (0, 0)), (-10, (-5,), (0, 0))), 0), ((-1, (0,), (0, 0)),))
        self.assertEqual(eliminated(((0, (2, 3), (0, 0)), (0, (-2, -9), (0, 0))), 0), ((0, (0, -1), (0, 0)),))
        # The constant, each coefficient and each weight count.
        self.assertEqual(eliminated(((1, (2, 4), (2, 2)), (0, (-2, 2), (2, 0))), 0), ((1, (0, 6), (4, 2)),))
        self.assertEqual(eliminated(((2, (2, 1), (2, 2)), (0, (-2, 2), (2, 0))), 0), ((2, (0, 3), (4, 2)),))
        self.assertEqual(eliminated(((2, (2, 4), (2, 1)), (0, (-2, 2), (2, 0))), 0), ((2, (0, 6), (4, 1)),))

    def test_all_numbers_0(self):
        self.assertEqual(eliminated(((1, (1,), (0, 0)), (-1, (-1,), (0, 0))), 0), ((0, (0,), (0, 0)),))
        self.assertEqual(eliminated(((2, (6, -4), ()), (-1, (-3, 2), ())), 0), ((0, (0, 0), ()),))

    def test_integers_of_60_digits(self):
        source = random.Random(1211)
        for _ in range(30):
            told = tuple(
                (source.randint(-HUGE, HUGE), (source.choice((-1, 0, 1)) * source.randint(1, HUGE), source.randint(-HUGE, HUGE)),
                 (source.randint(0, HUGE), source.randint(0, HUGE))) for _ in range(6)
            )
            for number in (0, 1):
                self.assertEqual(eliminated(told, number), slow_eliminated(told, number))
        self.assertEqual(eliminated(((HUGE, (HUGE,), (1,)), (HUGE, (-HUGE,), (1,))), 0), ((HUGE, (0,), (1,)),))

    def test_by_the_words_also_what_is_not_combined_rightly(self):
        source = random.Random(121)
        for _ in range(300):
            width, weights = source.randint(1, 3), source.randint(0, 4)
            told = tuple(
                (source.randint(-4, 4), tuple(source.randint(-3, 3) for _ in range(width)),
                 tuple(source.randint(0, 4) for _ in range(weights))) for _ in range(source.randint(0, 9))
            )
            for number in range(width):
                found = eliminated(told, number)
                self.assertEqual(found, slow_eliminated(told, number))
                self.assertEqual({one[1][number] for one in found} | {0}, {0})

    def test_what_arises_is_combined_rightly(self):
        for system in systems(1212, 150, 6, 3):
            for number in range(len(system[1])):
                found = eliminated(first_inequalities(system), number)
                self.check_form(system, found)
                for inequality in found:
                    self.assertTrue(means_the_same(system, inequality))
                self.assertIsNone(wrong_inequality(system, found))

    def test_it_asks_for_some_number_of_the_eliminated_multiplier(self):
        source = random.Random(1213)
        found = [0, 0]
        for _ in range(600):
            told = tuple(
                (source.randint(-4, 4), (source.randint(-2, 2), source.randint(-2, 2)), ()) for _ in range(source.randint(1, 5))
            )
            other = Fraction(source.randint(-6, 6), source.randint(1, 3))
            rest = [(constant + row[1] * other, row[0]) for constant, row, _ in told]
            lows = [-constant / rate for constant, rate in rest if rate > 0]
            highs = [-constant / rate for constant, rate in rest if rate < 0]
            still = all(constant >= 0 for constant, rate in rest if rate == 0)
            some = still and (not lows or not highs or max(lows) <= min(highs))
            found[some] += 1
            self.assertEqual(all(constant + row[1] * other >= 0 for constant, row, _ in eliminated(told, 0)), some)
        self.assertGreater(min(found), 100)

    def test_what_was_passed_stays(self):
        told = first_inequalities(SYSTEM)
        kept = eval(repr(told))
        eliminated(told, 0)
        wrong_inequality(SYSTEM, told)
        self.assertEqual(told, kept)


class LevelsTest(InequalityTest):
    def test_every_level(self):
        counts = {}
        for system in systems(122, 300, 6, 3):
            told = levels(system)
            rows = len(system[1])
            counts[rows] = counts.get(rows, 0) + 1
            self.assertEqual(len(told), rows + 1)
            self.assertEqual(told[rows], first_inequalities(system))
            for number in range(rows):
                self.assertEqual(told[number], slow_eliminated(told[number + 1], number))
                self.check_form(system, told[number])
                for _, coefficients, _ in told[number]:
                    self.assertEqual(coefficients[number:], (0,) * (rows - number))
                self.assertIsNone(wrong_inequality(system, told[number]))
        self.assertEqual(sorted(counts), [0, 1, 2, 3])

    def test_without_rows_and_without_units(self):
        self.assertEqual(levels(NO_ROWS), (first_inequalities(NO_ROWS),))
        self.assertEqual(levels(NEITHER), ((),))
        first = first_inequalities(NO_UNITS)
        # Each multiplier has a positive coefficient only, so its inequality is gone behind its elimination.
        self.assertEqual(levels(NO_UNITS), ((), first[:1], first[:2], first))

    def test_the_last_multiplier_goes_first(self):
        told = levels(SYSTEM)
        self.assertEqual(told[1], (
            (0, (1, 0), (1, 0, 0, 0, 0)), (-2, (1, 0), (0, 0, 1, 0, 0)),
            (0, (0, 0), (0, 5, 0, 0, 1)), (15, (-5, 0), (0, 0, 0, 5, 2)),
        ))


class EliminationTest(unittest.TestCase):
    def check(self, system, told):
        self.assertEqual(by_elimination(system), told)
        last = solve(start(system))
        if told[0] == "multipliers":
            self.assertIsNone(multiplier_defect(system, told[1]))
            self.assertEqual(math.gcd(*told[1]), 1)
            self.assertEqual(multipliers(last), told[1])
        else:
            self.assertIsNone(amount_defect(system, told[1]))
            self.assertEqual(math.gcd(*told[1]), 1)
            self.assertEqual(choice(last)[0], "infeasible")

    def test_multipliers(self):
        self.check(SYSTEM, ("multipliers", (1, 2, 0)))
        self.check(((3, 0), ((1, 1),)), ("multipliers", (1, 0)))
        # The slacks are -4 + m0 and 3 - m1 + 2 m0, and m1 has to be 1/3 at least.
        self.check(((-4, 3, -1), ((-1, -2, 0), (0, 1, -3))), ("multipliers", (3, 12, 1)))

    def test_multipliers_with_fractions_on_the_way(self):
        self.check(((-1,), ((-2,),)), ("multipliers", (2, 1)))
        self.check(((-1, -1), ((-2, 0), (0, -3))), ("multipliers", (6, 3, 2)))
        self.check(((-1, 0), ((-3, 1), (0, -2))), ("multipliers", (6, 2, 1)))
        self.check(((-1, 0, 0), ((-2, 1, 0), (0, -3, 1), (0, 0, -5))), ("multipliers", (30, 15, 5, 1)))
        self.check(((-2, 0, 0), ((-3, 2, 0), (0, -4, 9), (0, 0, -3))), ("multipliers", (3, 2, 1, 3)))

    def test_amounts(self):
        self.check(STUCK, ("amounts", (2, 1)))
        self.check(((-1, 1), ((0, 0),)), ("amounts", (1, 0)))
        self.check(((-3, 2, 0), ((-1, 1, 0),)), ("amounts", (1, 1, 0)))

    def test_amounts_with_fractions_on_the_way(self):
        self.check(((-1, 0), ((-3, 2),)), ("amounts", (2, 3)))
        self.check(((-1, 0, 0), ((-3, 5, 0), (0, -2, 7))), ("amounts", (35, 21, 6)))

    def test_the_first_negative_constant(self):
        self.check(((2, -1, -5), ()), ("amounts", (0, 1, 0)))
        # Both units have amounts of their own, and the multiplier cannot help either of them.
        self.check(((-1, -1), ((1, 0),)), ("amounts", (0, 1)))
        self.check(((-1, -1), ((0, 0),)), ("amounts", (1, 0)))

    def test_amounts_are_the_weights_of_the_slacks(self):
        found = 0
        for system in systems(1231, 600, 6, 3):
            told = by_elimination(system)
            if told[0] == "amounts":
                rows = len(system[1])
                weights = [weights for constant, _, weights in levels(system)[0] if constant < 0][0][rows:]
                common = math.gcd(*weights)
                self.assertEqual(told[1], tuple(weight // common for weight in weights))
                found += max(weights) > 1
        self.assertGreater(found, 20)

    def test_without_rows_and_without_units(self):
        self.check(NO_ROWS, ("multipliers", (1,)))
        self.check(((1, 0, -4), ()), ("amounts", (0, 0, 1)))
        self.check(NO_UNITS, ("multipliers", (1, 0, 0, 0)))
        self.check(NEITHER, ("multipliers", (1,)))

    def test_great_integers(self):
        self.check(((-10 ** 9,), ((-10 ** 9 + 1,),)), ("multipliers", (10 ** 9 - 1, 10 ** 9)))
        for system in systems(1232, 40, 5, 2, 10 ** 9):
            self.check(system, by_elimination(system))

    def test_over_many_systems(self):
        found = {"multipliers": 0, "amounts": 0}
        scales = {}
        for system in systems(123, 800, 6, 3):
            told = by_elimination(system)
            self.check(system, told)
            found[told[0]] += 1
            if told[0] == "multipliers":
                scales[told[1][0]] = True
        self.assertGreater(min(found.values()), 100)
        self.assertGreater(len(scales), 5)

    def test_systems_of_another_size(self):
        # What the program returns may be larger than what is passed otherwise.
        for system in systems(1233, 20, 8, 4, 2):
            if len(system[0]) > 6 or len(system[1]) > 3:
                self.check(system, by_elimination(system))


if __name__ == "__main__":
    unittest.main()
