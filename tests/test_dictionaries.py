"""[104], [110] to [119] and the interface's heading `ledgerproof/dictionaries.py`."""

import itertools
import math
import random
import types
import unittest
from fractions import Fraction

import things
from ledgerproof.dictionaries import amounts, choice, evidence, multipliers, path, pivot, solve, start, wrong_variable
from ledgerproof.systems import amount_defect, multiplier_defect
from printed import check_examples

EXAMPLES = """
>>> from ledgerproof.dictionaries import amounts, choice, evidence, multipliers, path, pivot, solve, start, wrong_variable
>>> first = start(system)
>>> first
((0, 1), ((0, 1), (0, 1), (-2, 1), (3, 1), (0, 1)), (((1, 1), (0, 1)), ((0, 1), (1, 1)), ((1, 1), (0, 1)), ((-1, 1), (2, 1)), ((0, 1), (-5, 1))))
>>> choice(first)
('pivot', 2, 0)
>>> pivot(first, 2, 0)
((2, 1), ((2, 1), (0, 1), (0, 1), (1, 1), (0, 1)), (((1, 1), (0, 1)), ((0, 1), (1, 1)), ((1, 1), (0, 1)), ((-1, 1), (2, 1)), ((0, 1), (-5, 1))))
>>> choice(pivot(first, 2, 0))
('optimal',)
>>> multipliers(solve(first))
(1, 2, 0)
>>> wrong_variable(system, pivot(first, 3, 1)) is None
True
>>> evidence(system, solve(first))
'optimal'
>>> evidence(system, first) is None
True
>>> stuck = ((-2, 3), ((-1, 2),))
>>> choice(start(stuck))
('pivot', 1, 0)
>>> choice(solve(start(stuck)))
('infeasible', 2)
>>> len(list(path(start(stuck))))
2
>>> amounts(solve(start(stuck)))
(2, 1)
"""

SYSTEM = ((-2, 3, 0), ((-1, 1, 0), (0, -2, 5)))
STUCK = ((-2, 3), ((-1, 2),))
NO_ROWS = ((1, 0, 4), ())
NO_UNITS = ((), ((), (), ()))
NEITHER = ((), ())


def fractions(numbers):
    return [Fraction(*number) for number in numbers]


def told(number):
    return (number.numerator, number.denominator)


def written(nonbasic, constants, coefficients):
    """A dictionary whose numbers are integers, Fractions or strings such as `1/2`."""
    return (
        tuple(nonbasic), tuple(told(Fraction(number)) for number in constants),
        tuple(tuple(told(Fraction(number)) for number in row) for row in coefficients),
    )


def definitions(system):
    """The definitions of [110]: pairs of a constant and of coefficients of the multipliers."""
    goal, rows = system
    units = [[int(k == number) for k in range(len(rows))] for number in range(len(rows))]
    return [(0, row) for row in units] + [
        (goal[unit], [-row[unit] for row in rows]) for unit in range(len(goal))
    ]


def slow_choice(dictionary):
    """[114] by its words."""
    nonbasic, constants, coefficients = dictionary
    negative = [variable for variable, constant in enumerate(fractions(constants)) if constant < 0]
    if not negative:
        return ("optimal",)
    variable = negative[0]
    row = fractions(coefficients[variable])
    lists = [
        ([Fraction(*coefficients[k][column]) / row[column] for k in range(len(nonbasic))], column)
        for column in range(len(nonbasic)) if row[column] > 0
    ]
    return ("pivot", variable, min(lists)[1]) if lists else ("infeasible", variable)


def slow_pivot(dictionary, variable, column):
    """[113] by solving the equation of the variable for the nonbasic variable and putting that in everywhere."""
    nonbasic, constants, coefficients = dictionary
    constant, row = Fraction(*constants[variable]), fractions(coefficients[variable])
    solved = [-one / row[column] for one in row]
    solved[column] = 1 / row[column]
    start_of = -constant / row[column]
    all_constants, all_rows = [], []
    for one, numbers in zip(fractions(constants), [fractions(numbers) for numbers in coefficients]):
        factor = numbers[column]
        all_constants.append(one + factor * start_of)
        all_rows.append([
            factor * part if k == column else number + factor * part
            for k, (number, part) in enumerate(zip(numbers, solved))
        ])
    return written((*nonbasic[:column], variable, *nonbasic[column + 1:]), all_constants, all_rows)


def random_dictionary(source, columns, slacks, size=5):
    """A dictionary that need not come from a system; some multipliers and some slacks are nonbasic."""
    nonbasic = source.sample(range(columns + slacks), columns)
    constants, rows = [], []
    for variable in range(columns + slacks):
        if variable in nonbasic:
            constants.append(Fraction(0))
            rows.append([Fraction(int(other == variable)) for other in nonbasic])
        else:
            constants.append(Fraction(source.randint(-size, size), source.randint(1, size)))
            rows.append([Fraction(source.randint(-size, size), source.randint(1, size)) for _ in nonbasic])
    return written(nonbasic, constants, rows)


def systems(seed, count, *sizes):
    source = random.Random(seed)
    for _ in range(count):
        yield things.system(source, *sizes)


class DictionaryTest(unittest.TestCase):
    def check_form(self, dictionary):
        """What [111] says, and that all fractions are in lowest terms."""
        nonbasic, constants, coefficients = dictionary
        self.assertEqual([type(part) for part in (dictionary, *dictionary)], [tuple] * 4)
        self.assertEqual(len(set(nonbasic)), len(nonbasic))
        self.assertEqual(len(constants), len(coefficients))
        for row in (constants, *coefficients):
            self.assertIs(type(row), tuple)
            for number in row:
                self.assertEqual([type(part) for part in (number, *number)], [tuple, int, int])
                self.assertGreaterEqual(number[1], 1)
                self.assertEqual(math.gcd(*number), 1)
        for column, variable in enumerate(nonbasic):
            self.assertEqual(constants[variable], (0, 1))
            self.assertEqual(coefficients[variable], tuple((int(k == column), 1) for k in range(len(nonbasic))))

    def check_right(self, system, dictionary):
        """All equations are true with the definitions in the place of the variables."""
        nonbasic, constants, coefficients = dictionary
        meant = definitions(system)
        for variable, (constant, row) in enumerate(meant):
            numbers = fractions(coefficients[variable])
            said = Fraction(*constants[variable]) + sum(number * meant[k][0] for number, k in zip(numbers, nonbasic))
            self.assertEqual(said, constant)
            for place, coefficient in enumerate(row):
                self.assertEqual(sum(number * meant[k][1][place] for number, k in zip(numbers, nonbasic)), coefficient)


class PrintedTest(unittest.TestCase):
    def test_examples_of_the_interface(self):
        check_examples(self, EXAMPLES, {"system": SYSTEM})


class StartTest(DictionaryTest):
    def test_definitions(self):
        for system in systems(110, 200, 5, 4):
            first = start(system)
            self.check_form(first)
            self.check_right(system, first)
            self.assertEqual(first[0], tuple(range(len(system[1]))))

    def test_small_ones(self):
        self.assertEqual(start(NEITHER), ((), (), ()))
        self.assertEqual(start(NO_ROWS), ((), ((1, 1), (0, 1), (4, 1)), ((), (), ())))
        one, zero = (1, 1), (0, 1)
        self.assertEqual(start(NO_UNITS), ((0, 1, 2), (zero,) * 3, ((one, zero, zero), (zero, one, zero), (zero, zero, one))))
        self.assertEqual(start(STUCK), ((0,), (zero, (-2, 1), (3, 1)), ((one,), (one,), ((-2, 1),))))

    def test_great_integers(self):
        system = ((10 ** 9, -10 ** 9), ((-10 ** 9, 1),))
        self.assertEqual(start(system)[1:], (((0, 1), (10 ** 9, 1), (-10 ** 9, 1)), (((1, 1),), ((10 ** 9, 1),), ((-1, 1),))))


class ChoiceTest(unittest.TestCase):
    def check(self, dictionary, expected):
        self.assertEqual(choice(dictionary), expected)
        self.assertEqual(slow_choice(dictionary), expected)

    def test_optimal(self):
        self.check(start(NEITHER), ("optimal",))
        self.check(start(NO_ROWS), ("optimal",))
        self.check(start(NO_UNITS), ("optimal",))
        self.check(written((0,), (0, 0, "1/2"), ((1,), (-3,), (0,))), ("optimal",))

    def test_infeasible(self):
        self.check(start(((0, -1), ())), ("infeasible", 1))
        self.check(written((0,), (0, "-1/3"), ((1,), (0,))), ("infeasible", 1))
        self.check(written((2,), ("-1/3", 4, 0), ((-2,), (1,), (1,))), ("infeasible", 0))
        self.check(written((0, 1), (0, 0, 5, -1, -2), ((1, 0), (0, 1), (1, 1), (0, "-1/2"), (1, 1))), ("infeasible", 3))

    def test_the_first_variable_with_a_negative_constant(self):
        self.check(written((0,), (0, 1, -1, -9), ((1,), (3,), (1,), (-2,))), ("pivot", 2, 0))
        self.check(written((3,), (-1, 1, -1, 0), ((1,), (3,), (-1,), (1,))), ("pivot", 0, 0))

    def test_only_columns_with_a_positive_coefficient(self):
        rows = ((1, 0, 0), (0, 1, 0), (0, 0, 1), (0, -5, "1/7"))
        self.check(written((0, 1, 2), (0, 0, 0, -1), rows), ("pivot", 3, 2))

    def test_the_lexicographically_least_list(self):
        # The lists are (1/2, 0) and (0, 1/3), so that the first multiplier decides.
        self.check(written((0, 1), (0, 0, -1), ((1, 0), (0, 1), (2, 3))), ("pivot", 2, 1))
        # The lists are (1, 5) and (1, 4): the second one decides.
        self.check(written((2, 3), (1, 1, 0, 0, -1), (("1/2", 3), ("5/2", 12), (1, 0), (0, 1), ("1/2", 3))), ("pivot", 4, 1))
        self.check(written((2, 3), (1, 1, 0, 0, -1), (("1/2", 3), ("3/2", 12), (1, 0), (0, 1), ("1/2", 3))), ("pivot", 4, 0))
        # Numbers below 0, and -3/2 before -1.
        self.check(written((2, 3), (1, 1, 0, 0, -1), ((-3, -2), (0, 0), (1, 0), (0, 1), (2, 2))), ("pivot", 4, 0))
        self.check(written((2, 3), (1, 1, 0, 0, -1), ((-3, -2), (0, 0), (1, 0), (0, 1), (3, 1))), ("pivot", 4, 1))

    def test_the_first_of_equal_lists(self):
        self.check(written((2, 3), (1, 1, 0, 0, -1), ((1, 2), (3, 6), (1, 0), (0, 1), (2, 4))), ("pivot", 4, 0))
        self.check(written((2, 3), (1, 1, 0, 0, -1), ((0, 0), (0, 0), (1, 0), (0, 1), ("1/3", 4))), ("pivot", 4, 0))
        rows = ((5, 1, 1), (0, 0, 0), (0, 0, 0), (1, 0, 0), (0, 1, 0), (0, 0, 1), (1, 1, 1))
        self.check(written((3, 4, 5), (0, 0, 0, 0, 0, 0, -1), rows), ("pivot", 6, 1))

    def test_columns_that_are_not_positive(self):
        self.check(written((2, 3), (1, 1, 0, 0, -1), ((-1, 0), (0, -1), (1, 0), (0, 1), (1, 1))), ("pivot", 4, 0))

    def test_by_the_words(self):
        source = random.Random(114)
        found = {}
        for _ in range(2000):
            dictionary = random_dictionary(source, source.randint(0, 4), source.randint(0, 5), source.choice((1, 2, 5)))
            expected = slow_choice(dictionary)
            found[expected[0]] = found.get(expected[0], 0) + 1
            self.check(dictionary, expected)
        self.assertGreater(min(found[word] for word in ("optimal", "infeasible", "pivot")), 100)

    def test_numbers_of_thirty_digits(self):
        source = random.Random(30)
        for _ in range(50):
            dictionary = random_dictionary(source, 3, 4, 10 ** 29)
            self.check(dictionary, slow_choice(dictionary))


class PivotTest(DictionaryTest):
    def check(self, dictionary, variable, column):
        found = pivot(dictionary, variable, column)
        self.check_form(found)
        self.assertEqual(found, slow_pivot(dictionary, variable, column))
        return found

    def test_positive_and_negative_coefficients(self):
        first = written((0, 1), (0, 0, -3, "1/2"), ((1, 0), (0, 1), (2, 1), (-4, "2/3")))
        self.assertEqual(self.check(first, 2, 0), written((2, 1), ("3/2", 0, 0, "-11/2"), (("1/2", "-1/2"), (0, 1), (1, 0), (-2, "8/3"))))
        self.assertEqual(self.check(first, 3, 0), written((3, 1), ("1/8", 0, "-11/4", 0), (("-1/4", "1/6"), (0, 1), ("-1/2", "4/3"), (1, 0))))
        self.check(first, 3, 1)
        self.check(first, 2, 1)

    def test_a_nonbasic_variable_in_its_own_column(self):
        first = written((0, 1), (0, 0, -3), ((1, 0), (0, 1), (2, 1)))
        self.assertEqual(pivot(first, 1, 1), first)

    def test_there_and_back(self):
        source = random.Random(113)
        for _ in range(300):
            dictionary = random_dictionary(source, source.randint(1, 4), source.randint(0, 5))
            for column, gone in enumerate(dictionary[0]):
                for variable, row in enumerate(dictionary[2]):
                    if row[column][0] != 0:
                        found = self.check(dictionary, variable, column)
                        self.assertEqual(found[0][column], variable)
                        self.assertEqual(pivot(found, gone, column), dictionary)

    def test_equations_stay_true(self):
        source = random.Random(1131)
        for system in systems(1132, 150, 5, 4):
            dictionary = start(system)
            for _ in range(4):
                free = [(variable, column) for variable, row in enumerate(dictionary[2])
                        for column, number in enumerate(row) if number[0] != 0]
                if free:
                    dictionary = self.check(dictionary, *source.choice(free))
                    self.check_right(system, dictionary)
                    self.assertIsNone(wrong_variable(system, dictionary))

    def test_numbers_of_thirty_digits(self):
        source = random.Random(31)
        for _ in range(20):
            dictionary = random_dictionary(source, 3, 4, 10 ** 29)
            for variable, row in enumerate(dictionary[2]):
                if row[1][0] != 0:
                    self.check(dictionary, variable, 1)

    def test_the_dictionary_that_was_passed_stays(self):
        first = start(SYSTEM)
        kept = eval(repr(first))
        pivot(first, 2, 0)
        solve(first)
        list(path(first))
        self.assertEqual(first, kept)


class MethodTest(DictionaryTest):
    def test_the_path_by_the_words(self):
        longest = 0
        for system in systems(115, 400, 6, 4):
            dictionary = start(system)
            found = list(path(dictionary))
            for place, step in enumerate(found):
                self.assertEqual(step, dictionary)
                chosen = slow_choice(dictionary)
                self.assertEqual(chosen[0] == "pivot", place + 1 < len(found))
                if chosen[0] == "pivot":
                    dictionary = slow_pivot(dictionary, *chosen[1:])
            self.assertEqual(solve(start(system)), found[-1])
            longest = max(longest, len(found))
        self.assertGreater(longest, 4)

    def test_from_one_on_the_way(self):
        for system in systems(1151, 150, 6, 4):
            found = list(path(start(system)))
            for place, dictionary in enumerate(found):
                self.assertEqual(list(path(dictionary)), found[place:])
                self.assertEqual(solve(dictionary), found[-1])

    def test_columns_on_the_way_are_positive_and_lists_differ(self):
        for system in systems(1152, 200, 6, 4):
            count = len(system[1])
            for nonbasic, constants, coefficients in path(start(system)):
                self.check_form((nonbasic, constants, coefficients))
                for column in range(count):
                    numbers = [coefficients[k][column][0] for k in range(count) if coefficients[k][column][0] != 0]
                    self.assertTrue(numbers and numbers[0] > 0)
                chosen = slow_choice((nonbasic, constants, coefficients))
                if chosen[0] == "pivot":
                    row = fractions(coefficients[chosen[1]])
                    lists = [tuple(Fraction(*coefficients[k][column]) / row[column] for k in range(count))
                             for column in range(count) if row[column] > 0]
                    self.assertEqual(len(set(lists)), len(lists))

    def test_without_rows_and_without_units(self):
        for system in (NEITHER, NO_ROWS, NO_UNITS, ((0, -1), ())):
            first = start(system)
            self.assertEqual(list(path(first)), [first])
            self.assertEqual(solve(first), first)
        self.assertEqual(choice(solve(start(((0, -1), ())))), ("infeasible", 1))

    def test_it_ends_over_many_systems(self):
        for system in systems(1153, 200, 12, 8, 3):
            last = solve(start(system))
            self.assertIn(choice(last)[0], ("optimal", "infeasible"))
            self.check_right(system, last)

    def test_great_integers(self):
        for system in systems(1154, 20, 12, 8, 10 ** 9):
            last = solve(start(system))
            self.check_form(last)
            self.assertIsNotNone(evidence(system, last))

    def test_a_path_that_is_iterated_over_in_part(self):
        first = start(STUCK)
        found = path(first)
        self.assertIsInstance(found, types.GeneratorType)
        self.assertEqual(next(found), first)
        other = path(first)
        self.assertEqual(list(other), [first, solve(first)])
        self.assertEqual(next(found), solve(first))
        self.assertEqual(list(found), [])
        self.assertEqual(list(path(first)), [first, solve(first)])


class SolutionTest(DictionaryTest):
    def test_multipliers_have_the_least_scale(self):
        self.assertEqual(multipliers(written((2, 3), ("1/2", "2/3", 0, 0), ((1, 0), (0, 1), (1, 0), (0, 1)))), (6, 3, 4))
        self.assertEqual(multipliers(written((2, 3), (2, 4, 0, 0), ((1, 0), (0, 1), (1, 0), (0, 1)))), (1, 2, 4))
        self.assertEqual(multipliers(written((2, 3), ("5/6", "3/4", 0, 0), ((1, 0), (0, 1), (1, 0), (0, 1)))), (12, 10, 9))
        # The constants of slacks do not count.
        self.assertEqual(multipliers(written((0,), (0, "1/7"), ((1,), (1,)))), (1, 0))
        self.assertEqual(multipliers(written((1,), ("3/2", 0, "1/7"), ((1,), (1,), (0,)))), (2, 3))
        self.assertEqual(multipliers(start(NO_ROWS)), (1,))
        self.assertEqual(multipliers(start(NEITHER)), (1,))
        self.assertEqual(multipliers(start(NO_UNITS)), (1, 0, 0, 0))

    def test_amounts(self):
        # Infeasible at the slack of unit 0, with the slack of unit 1 among the nonbasic variables.
        self.assertEqual(amounts(written((2,), ("1/2", -1, 0), ((1,), ("-2/3",), (1,)))), (3, 2))
        self.assertEqual(amounts(written((3, 0), (0, 1, -1, 0, 5), ((0, 1), (2, 2), (-4, "-1/3"), (1, 0), (1, 1)))), (1, 4, 0))
        self.assertEqual(amounts(written((0,), (0, -1, 5), ((1,), (0,), (2,)))), (1, 0))
        self.assertEqual(amounts(start(((4, -2, -3), ()))), (0, 1, 0))

    def test_amounts_without_a_common_divisor(self):
        # Infeasible at a multiplier: no unit has it as its slack.
        self.assertEqual(amounts(written((2, 3), (-1, 0, 0, 0), ((-4, -6), (0, 0), (1, 0), (0, 1)))), (2, 3))
        self.assertEqual(amounts(written((2, 3), (-1, 0, 0, 0), (("-4/3", "-6/5"), (0, 0), (1, 0), (0, 1)))), (10, 9))
        self.assertEqual(amounts(written((2, 3), (-1, 0, 0, 0), ((0, -6), (0, 0), (1, 0), (0, 1)))), (0, 1))

    def test_all_amounts_0(self):
        self.assertEqual(amounts(written((2, 3), (-1, 0, 0, 0), ((0, 0), (0, 0), (1, 0), (0, 1)))), (0, 0))
        self.assertEqual(amounts(written((1,), (-1, 0, 3), ((0,), (1,), (2,)))), (0, 0))

    def test_at_the_end_of_the_method(self):
        found = {"optimal": 0, "infeasible": 0}
        for system in systems(116, 600, 6, 4):
            last = solve(start(system))
            word = choice(last)[0]
            found[word] += 1
            if word == "optimal":
                told_of = multipliers(last)
                self.assertIsNone(multiplier_defect(system, told_of))
                self.assertEqual(math.gcd(*told_of), 1)
            else:
                told_of = amounts(last)
                self.assertIsNone(amount_defect(system, told_of))
                self.assertEqual(math.gcd(*told_of), 1)
                self.assertLessEqual(len([amount for amount in told_of if amount > 0]), len(system[1]) + 1)
        self.assertGreater(min(found.values()), 100)


def least_by_elimination(system):
    """The fractions of the least multipliers, found by leaving out the multipliers from the last to the first."""
    levels = [[(Fraction(constant), [Fraction(number) for number in row]) for constant, row in definitions(system)]]
    for number in range(len(system[1]) - 1, -1, -1):
        above = [line for line in levels[-1] if line[1][number] > 0]
        below = [line for line in levels[-1] if line[1][number] < 0]
        lines = [line for line in levels[-1] if line[1][number] == 0]
        for (one, row), (other, line) in itertools.product(above, below):
            up, down = row[number], -line[number]
            lines.append((one * down + other * up, [x * down + y * up for x, y in zip(row, line)]))
        levels.append(lines)
    if any(constant < 0 for constant, _ in levels[-1]):
        return None
    found = []
    for number in range(len(system[1])):
        bounds = [
            -(constant + sum(x * y for x, y in zip(row, found))) / row[number]
            for constant, row in levels[-2 - number] if row[number] > 0
        ]
        found.append(max(bounds))
    return found


class LeastTest(unittest.TestCase):
    """[104]: no valid multipliers are lexicographically less."""

    def test_by_elimination(self):
        found = [0, 0]
        for system in systems(104, 400, 5, 3):
            expected = least_by_elimination(system)
            last = solve(start(system))
            found[expected is None] += 1
            if expected is None:
                self.assertEqual(choice(last)[0], "infeasible")
            else:
                scale, *numbers = multipliers(last)
                self.assertEqual([Fraction(number, scale) for number in numbers], expected)
        self.assertGreater(min(found), 100)

    def test_by_trying_small_ones(self):
        for system in systems(1041, 150, 3, 2, 3):
            last = solve(start(system))
            least = None
            for numbers in itertools.product(range(1, 5), *[range(7)] * len(system[1])):
                if multiplier_defect(system, numbers) is None:
                    parts = [Fraction(number, numbers[0]) for number in numbers[1:]]
                    least = parts if least is None else min(least, parts)
            if choice(last)[0] == "infeasible":
                self.assertIsNone(least)
            elif least is not None:
                scale, *numbers = multipliers(last)
                self.assertLessEqual([Fraction(number, scale) for number in numbers], least)

    def test_the_order_of_the_rows_counts(self):
        rows = ((-1, 0), (-1, -1), (0, -1))
        for order in itertools.permutations(rows):
            system = ((-3, -2), order)
            scale, *numbers = multipliers(solve(start(system)))
            self.assertEqual([Fraction(number, scale) for number in numbers], least_by_elimination(system))


class EvidenceTest(DictionaryTest):
    LAST = solve(start(SYSTEM))
    END = solve(start(STUCK))

    def with_constant(self, dictionary, variable, number):
        nonbasic, constants, coefficients = dictionary
        return (nonbasic, (*constants[:variable], number, *constants[variable + 1:]), coefficients)

    def with_coefficient(self, dictionary, variable, column, number):
        nonbasic, constants, coefficients = dictionary
        row = coefficients[variable]
        row = (*row[:column], number, *row[column + 1:])
        return (nonbasic, constants, (*coefficients[:variable], row, *coefficients[variable + 1:]))

    def test_every_wrong_number_is_found(self):
        # The nonbasic variables of the last dictionary are those with the numbers 2 and 1.
        for variable in (0, 3, 4):
            changed = self.with_constant(self.LAST, variable, (5, 7))
            self.assertEqual(wrong_variable(SYSTEM, changed), variable)
            self.assertIsNone(evidence(SYSTEM, changed))
            for column in (0, 1):
                changed = self.with_coefficient(self.LAST, variable, column, (5, 7))
                self.assertEqual(wrong_variable(SYSTEM, changed), variable)
                self.assertIsNone(evidence(SYSTEM, changed))

    def test_the_first_of_several(self):
        changed = self.with_constant(self.with_coefficient(self.LAST, 4, 1, (1, 3)), 3, (2, 3))
        self.assertEqual(wrong_variable(SYSTEM, changed), 3)
        changed = self.with_constant(changed, 0, (0, 1))
        self.assertEqual(wrong_variable(SYSTEM, changed), 0)
        self.assertEqual(wrong_variable(((-2, 3, 0), ((-1, 1, 0), (0, -2, 4))), start(SYSTEM)), 4)
        self.assertEqual(wrong_variable(((-2, 2, 1), ((-1, 1, 0), (0, -2, 5))), start(SYSTEM)), 3)
        # The slack of unit 0 stands in the place of multiplier 0, so that this one is told first.
        self.assertEqual(wrong_variable(((-3, 3, 0), SYSTEM[1]), self.LAST), 0)

    def test_dictionaries_of_systems_have_none(self):
        for system in systems(118, 150, 5, 4):
            for dictionary in path(start(system)):
                self.assertIsNone(wrong_variable(system, dictionary))

    def test_dictionaries_of_other_systems(self):
        source = random.Random(1181)
        for system in systems(1182, 200, 5, 4):
            goal, rows = system
            if goal:
                unit = source.randrange(len(goal))
                other = (goal[:unit] + (goal[unit] + 1,) + goal[unit + 1:], rows)
                for dictionary in path(start(system)):
                    self.assertIsNotNone(wrong_variable(other, dictionary))
                    self.assertIsNone(evidence(other, dictionary))

    def test_dictionaries_that_no_method_made(self):
        source = random.Random(1183)
        for _ in range(300):
            columns, units = source.randint(0, 3), source.randint(0, 4)
            dictionary = random_dictionary(source, columns, units)
            system = (
                tuple(source.randint(-3, 3) for _ in range(units)),
                tuple(tuple(source.randint(-3, 3) for _ in range(units)) for _ in range(columns)),
            )
            meant = definitions(system)
            expected = None
            for variable, (constant, row) in reversed(list(enumerate(meant))):
                numbers = fractions(dictionary[2][variable])
                used = [meant[k] for k in dictionary[0]]
                said = Fraction(*dictionary[1][variable]) + sum(number * one for number, (one, _) in zip(numbers, used))
                parts = [sum(number * line[k] for number, (_, line) in zip(numbers, used)) for k in range(columns)]
                if said != constant or parts != row:
                    expected = variable
            self.assertEqual(wrong_variable(system, dictionary), expected)

    def test_both_kinds(self):
        self.assertEqual(evidence(SYSTEM, self.LAST), "optimal")
        self.assertEqual(evidence(STUCK, self.END), "infeasible")
        for system in systems(119, 300, 6, 4):
            last = solve(start(system))
            self.assertEqual(evidence(system, last), choice(last)[0])

    def test_without_columns_and_without_units(self):
        self.assertEqual(evidence(NEITHER, start(NEITHER)), "optimal")
        self.assertEqual(evidence(NO_ROWS, start(NO_ROWS)), "optimal")
        self.assertEqual(evidence(NO_UNITS, start(NO_UNITS)), "optimal")
        self.assertEqual(evidence(((1, -1), ()), start(((1, -1), ()))), "infeasible")

    def test_a_negative_constant_with_a_positive_coefficient(self):
        self.assertIsNone(evidence(SYSTEM, start(SYSTEM)))
        self.assertIsNone(evidence(STUCK, start(STUCK)))

    def test_any_variable_with_a_negative_constant_counts(self):
        # The first negative constant has a positive coefficient, the second one has none.
        system = ((-1, -1), ((-1, 1),))
        first = start(system)
        self.assertEqual(choice(first), ("pivot", 1, 0))
        self.assertEqual(evidence(system, first), "infeasible")
        system = ((-1, -1), ((-1, 0),))
        self.assertEqual(evidence(system, start(system)), "infeasible")
        self.assertIsNone(evidence(((-1, -1), ((-1, -1),)), start(((-1, -1), ((-1, -1),)))))

    def test_a_column_without_a_positive_first_coefficient(self):
        # Pivots that no method makes: all constants are from 0 on, but a column begins with a negative coefficient.
        system = ((2,), ((1,),))
        first = start(system)
        self.assertEqual(evidence(system, first), "optimal")
        other = pivot(first, 1, 0)
        self.assertEqual(other, written((1,), (2, 0), ((-1,), (1,))))
        self.assertIsNone(wrong_variable(system, other))
        self.assertIsNone(evidence(system, other))
        # The first coefficient that is not 0 decides, and it decides in every column.
        system = ((2, 0), ((1, 1), (0, -1)))
        other = pivot(start(system), 2, 0)
        self.assertEqual([row[0] for row in other[2][:2]], [(-1, 1), (0, 1)])
        self.assertIsNone(evidence(system, other))
        system = ((0, 2), ((0, 0), (0, 1)))
        other = pivot(start(system), 3, 1)
        self.assertEqual([row[1] for row in other[2][:2]], [(0, 1), (-1, 1)])
        self.assertIsNone(wrong_variable(system, other))
        self.assertIsNone(evidence(system, other))

    def test_a_first_coefficient_that_is_positive_before_a_negative_one(self):
        system = ((1,), ((-1,), (1,)))
        other = pivot(start(system), 2, 0)
        self.assertEqual(other, written((2, 1), (-1, 0, 0), ((1, 1), (0, 1), (1, 0))))
        self.assertIsNone(evidence(system, other))
        system = ((-1,), ((-1,), (1,)))
        other = pivot(start(system), 2, 0)
        self.assertEqual(other, written((2, 1), (1, 0, 0), ((1, 1), (0, 1), (1, 0))))
        self.assertEqual(evidence(system, other), "optimal")
        system = ((-1,), ((-1,), (-1,)))
        other = pivot(start(system), 2, 0)
        self.assertEqual(other, written((2, 1), (1, 0, 0), ((1, -1), (0, 1), (1, 0))))
        self.assertIsNone(evidence(system, other))

    def test_a_column_without_any_coefficient_of_a_multiplier(self):
        # Then the multipliers cannot all be expressed rightly.
        system = ((0, 0), ((0, 0),))
        dictionary = written((1,), (0, 0, 0), ((0,), (1,), (0,)))
        self.assertEqual(wrong_variable(system, dictionary), 0)
        self.assertIsNone(evidence(system, dictionary))
        self.check_form(dictionary)
        self.assertEqual(evidence(system, start(system)), "optimal")

    def test_what_evidence_proves(self):
        source = random.Random(1191)
        found = {"optimal": 0, "infeasible": 0}
        for system in systems(1192, 300, 5, 3):
            dictionary = start(system)
            for _ in range(5):
                word = evidence(system, dictionary)
                if word is not None:
                    found[word] += 1
                    self.assertEqual(word, choice(solve(start(system)))[0])
                if word == "optimal":
                    self.assertEqual(multipliers(dictionary), multipliers(solve(start(system))))
                free = [(variable, column) for variable, row in enumerate(dictionary[2])
                        for column, number in enumerate(row) if number[0] != 0]
                if free:
                    dictionary = pivot(dictionary, *source.choice(free))
        self.assertGreater(min(found.values()), 50)


if __name__ == "__main__":
    unittest.main()
