"""Dictionaries, and the method that finds the least multipliers of a system or valid amounts of it."""

from ledgerproof.divisors import over_one_scale, without_divisor
from ledgerproof.systems import definitions
from ledgerproof.tables import chosen, dictionary_of, exchanged, table_of


def start(system):
    """The first dictionary of the system."""
    found = definitions(system)
    constants = tuple([(constant, 1) for constant, _ in found])
    coefficients = tuple([tuple([(number, 1) for number in row]) for _, row in found])
    return (tuple(range(len(system[1]))), constants, coefficients)


def choice(dictionary):
    """What the method does next with the dictionary."""
    return chosen(table_of(dictionary))


def pivot(dictionary, variable, column):
    """The dictionary behind the pivot of the variable on the column."""
    return dictionary_of(exchanged(table_of(dictionary), variable, column))


def path(dictionary):
    """Tells the dictionaries on the way of the method, from this one to the last one."""
    yield dictionary
    table = table_of(dictionary)
    step = chosen(table)
    while step[0] == "pivot":
        table = exchanged(table, step[1], step[2])
        yield dictionary_of(table)
        step = chosen(table)


def solve(dictionary):
    """The last dictionary on the way of the method."""
    table = table_of(dictionary)
    step = chosen(table)
    while step[0] == "pivot":
        table = exchanged(table, step[1], step[2])
        step = chosen(table)
    return dictionary_of(table)


def multipliers(dictionary):
    """The scale and the multipliers that an optimal dictionary gives."""
    nonbasic, constants, _ = dictionary
    scale, numbers = over_one_scale(constants[:len(nonbasic)])
    return (scale, *numbers)


def amounts(dictionary):
    """The amounts of the units in an infeasible dictionary."""
    _, variable = choice(dictionary)
    nonbasic, constants, coefficients = dictionary
    row = coefficients[variable]
    fractions = []
    for slack in range(len(nonbasic), len(constants)):
        if slack == variable:
            fractions.append((1, 1))
        elif slack in nonbasic:
            above, below = row[nonbasic.index(slack)]
            fractions.append((-above, below))
        else:
            fractions.append((0, 1))
    return without_divisor(over_one_scale(fractions)[1])


def wrong_variable(system, dictionary):
    """The first variable that the dictionary does not express rightly for the system, or None."""
    nonbasic, lines = table_of(dictionary)
    found = definitions(system)
    used = [found[variable] for variable in nonbasic]
    for variable, (scale, numbers) in enumerate(lines):
        if not _is_right(found[variable], scale, numbers, used):
            return variable
    return None


def evidence(system, dictionary):
    """The kind of evidence that the dictionary is for the system, or None."""
    if wrong_variable(system, dictionary) is not None:
        return None
    _, lines = table_of(dictionary)
    stuck = [numbers for _, numbers in lines if numbers[0] < 0]
    if stuck == []:
        return "optimal" if _has_positive_columns(lines) else None
    return "infeasible" if any([max(numbers[1:], default=0) <= 0 for numbers in stuck]) else None


def _is_right(definition, scale, numbers, used):
    """Whether the scale times the definition is what the numbers say, with the definitions of the variables used."""
    constant, coefficients = definition
    told = numbers[0] + sum([number * other for number, (other, _) in zip(numbers[1:], used)])
    if told != scale * constant:
        return False
    for k, coefficient in enumerate(coefficients):
        if sum([number * other[k] for number, (_, other) in zip(numbers[1:], used)]) != scale * coefficient:
            return False
    return True


def _has_positive_columns(lines):
    """Whether in each column the first coefficient of a multiplier that is not 0 is there and positive."""
    count = len(lines[0][1]) - 1 if lines != [] else 0
    for place in range(1, count + 1):
        column = [numbers[place] for _, numbers in lines[:count] if numbers[place] != 0]
        if column == [] or column[0] < 0:
            return False
    return True
