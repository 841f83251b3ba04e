"""Dictionaries as tables of integers, in which pivots take fewer steps than with fractions.

A table is a pair of the nonbasic variables and of one line for each variable: a pair of a scale, at least 1, and a
list of integers, the scale times the constant followed by the scale times the coefficients.
"""

from ledgerproof.divisors import common_divisor, lowest, over_one_scale


def table_of(dictionary):
    """The table of a dictionary."""
    nonbasic, constants, coefficients = dictionary
    return (nonbasic, [over_one_scale((constant, *row)) for constant, row in zip(constants, coefficients)])


def dictionary_of(table):
    """The dictionary of a table, with fractions in lowest terms."""
    nonbasic, lines = table
    rows = [[lowest(number, scale) for number in numbers] for scale, numbers in lines]
    return (nonbasic, tuple([row[0] for row in rows]), tuple([tuple(row[1:]) for row in rows]))


def chosen(table):
    """The choice of the dictionary with this table."""
    _, lines = table
    for variable, (_, numbers) in enumerate(lines):
        if numbers[0] < 0:
            column = _column(lines, numbers)
            return ("infeasible", variable) if column is None else ("pivot", variable, column)
    return ("optimal",)


def exchanged(table, variable, column):
    """The table behind the pivot of the variable on the column."""
    nonbasic, lines = table
    pivot_line = lines[variable]
    swapped = tuple([variable if k == column else other for k, other in enumerate(nonbasic)])
    return (swapped, [_replaced(line, pivot_line, column + 1) for line in lines])


def _column(lines, numbers):
    """The column to pivot on if the variable with these numbers has a negative constant, or None."""
    places = [place for place in range(1, len(numbers)) if numbers[place] > 0]
    for _, line in lines[:len(numbers) - 1]:
        # The scales of both lines are the same for all columns, so that they do not matter for the least quotient.
        least = places[:1]
        for place in places[1:]:
            order = line[place] * numbers[least[0]] - line[least[0]] * numbers[place]
            if order < 0:
                least = [place]
            elif order == 0:
                least.append(place)
        places = least
    return None if places == [] else places[0] - 1


def _replaced(line, pivot_line, place):
    """The line in which the nonbasic variable at this place is replaced by what the pivot line says of it."""
    scale, numbers = line
    pivot_scale, pivot_numbers = pivot_line
    factor = numbers[place]
    if factor == 0:
        return line
    pivot = pivot_numbers[place]
    new_scale = scale * pivot
    changed = [number * pivot - factor * other for number, other in zip(numbers, pivot_numbers)]
    changed[place] = factor * pivot_scale
    return _reduced(new_scale, changed)


def _reduced(scale, numbers):
    """The line divided by its greatest common divisor, with a positive scale."""
    common = common_divisor((scale, *numbers))
    if scale < 0:
        common = -common
    return (scale // common, [number // common for number in numbers])
