"""Systems, and the multipliers and amounts that are valid for them."""


def multiplier_defect(system, multipliers):
    """The first defect of the integers as multipliers of the system, or None."""
    count = len(system[1]) + 1
    if len(multipliers) != count:
        return ("length", count)
    if multipliers[0] < 1:
        return ("scale",)
    return _first_negative("negative", multipliers[1:]) or _first_negative("unit", slacks(system, multipliers))


def amount_defect(system, amounts):
    """The first defect of the integers as amounts of the system, or None."""
    count = len(system[0])
    if len(amounts) != count:
        return ("length", count)
    of_goal, of_rows = totals(system, amounts)
    found = _first_negative("negative", amounts) or _first_negative("row", of_rows)
    if found is None and of_goal >= 0:
        return ("goal",)
    return found


def slacks(system, multipliers):
    """The slack of each unit with these multipliers."""
    goal, rows = system
    found = []
    for unit, number in enumerate(goal):
        covered = sum([times * row[unit] for times, row in zip(multipliers[1:], rows)])
        found.append(multipliers[0] * number - covered)
    return tuple(found)


def totals(system, amounts):
    """The total of the goal, and the totals of all rows."""
    goal, rows = system
    return (_total(goal, amounts), tuple([_total(row, amounts) for row in rows]))


def definitions(system):
    """For each variable its definition by the multipliers: a constant and one coefficient for each multiplier."""
    goal, rows = system
    count = len(rows)
    found = [(0, tuple([1 if k == number else 0 for k in range(count)])) for number in range(count)]
    found.extend([(number, tuple([-row[unit] for row in rows])) for unit, number in enumerate(goal)])
    return found


def _total(numbers, amounts):
    return sum([amount * number for amount, number in zip(amounts, numbers)])


def _first_negative(word, numbers):
    for place, number in enumerate(numbers):
        if number < 0:
            return (word, place)
    return None
