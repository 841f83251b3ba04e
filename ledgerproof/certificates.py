"""Certificates: evidence that a claim holds, which can be checked by itself."""

from ledgerproof.obligations import obligations, system_of, unit_transactions
from ledgerproof.systems import multiplier_defect


def first_defect(model, claim, certificate):
    """The first defect of the tuples of integers as a certificate for the claim, or None."""
    found = obligations(model, claim)
    if len(certificate) != len(found):
        return ("obligations", len(found))
    for number, (profile, _, _) in enumerate(found):
        defect = multiplier_defect(system_of(model, claim, number), certificate[number])
        if defect is not None:
            return _told(model, profile, number, defect)
    return None


def used(model, claim, certificate):
    """The numbers of the premises that a valid certificate uses, ascending."""
    numbers = {}
    for (_, _, rows), multipliers in zip(obligations(model, claim), certificate):
        for (premise, _, _), times in zip(rows, multipliers[1:]):
            if times != 0:
                numbers[premise] = True
    return tuple(sorted(numbers))


def _told(model, profile, number, defect):
    """The defect of multipliers, told as one of the obligation with this number and profile."""
    if defect[0] == "unit":
        unit = unit_transactions(model, profile)[defect[1]]
        return ("transaction", number, *unit)
    return (defect[0], number, *defect[1:])
