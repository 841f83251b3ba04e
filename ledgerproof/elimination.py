"""Elimination: a second way to solve small systems, which combines inequalities.

An inequality is a triple of a constant, of one coefficient for each multiplier, and of one weight for each variable.
"""

from ledgerproof.divisors import lowest, over_one_scale, without_divisor
from ledgerproof.systems import definitions


def first_inequalities(system):
    """For each variable the inequality that says that it is at least 0."""
    found = definitions(system)
    count = len(found)
    marks = [tuple([1 if k == number else 0 for k in range(count)]) for number in range(count)]
    return tuple([(constant, row, mark) for (constant, row), mark in zip(found, marks)])


def wrong_inequality(system, inequalities):
    """The number of the first inequality that is not combined rightly, or None."""
    meant = [(one, *row) for one, row in definitions(system)]
    for number, (constant, coefficients, weights) in enumerate(inequalities):
        for place, said in enumerate((constant, *coefficients)):
            if sum([weight * line[place] for weight, line in zip(weights, meant)]) != said:
                return number
    return None


def eliminated(inequalities, number):
    """The inequalities that eliminating the multiplier with this number gives."""
    found = [one for one in inequalities if one[1][number] == 0]
    above = [one for one in inequalities if one[1][number] > 0]
    below = [one for one in inequalities if one[1][number] < 0]
    found.extend([_combined(first, second, number) for first in above for second in below])
    return tuple(found)


def levels(system):
    """The levels of the system, level 0 first."""
    found = [first_inequalities(system)]
    for number in reversed(range(len(system[1]))):
        found.append(eliminated(found[-1], number))
    return tuple(found[::-1])


def by_elimination(system):
    """The least multipliers of the system, or valid amounts of it."""
    found = levels(system)
    for constant, _, weights in found[0]:
        if constant < 0:
            return ("amounts", without_divisor(weights[len(system[1]):]))
    values = []
    for number in range(len(system[1])):
        values.append(_least(found[number + 1], values))
    scale, numbers = over_one_scale(values)
    return ("multipliers", (scale, *numbers))


def _combined(first, second, number):
    """The inequality without this multiplier, whose coefficient is positive in the first one, else negative."""
    times = -second[1][number]
    other = first[1][number]
    numbers = without_divisor([times * one + other * two for one, two in zip(_flat(first), _flat(second))])
    behind = len(first[1]) + 1
    return (numbers[0], numbers[1:behind], numbers[behind:])


def _flat(inequality):
    constant, coefficients, weights = inequality
    return (constant, *coefficients, *weights)


def _least(inequalities, values):
    """The least number of the next multiplier that the inequalities allow, with these values of those before it."""
    scale, numbers = over_one_scale(values)
    least = (0, 1)
    for constant, coefficients, _ in inequalities:
        rate = coefficients[len(numbers)]
        if rate > 0:
            lacking = -scale * constant - sum([times * one for times, one in zip(coefficients, numbers)])
            if lacking * least[1] > least[0] * scale * rate:
                least = lowest(lacking, scale * rate)
    return least
