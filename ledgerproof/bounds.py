"""Bounds: how much of another sum has to be added to a claim to make it hold."""

from ledgerproof.dictionaries import choice, solve, start
from ledgerproof.errors import NotASum
from ledgerproof.obligations import contributions, system_of


def raised(claim, constraint, fraction):
    """The claim raised by the fraction times the constraint."""
    _check_sums(claim, constraint)
    above, below = fraction
    terms = _times(claim[1], below)
    if above != 0:
        terms = (*terms, *_times(constraint, above))
    return (claim[0], ("sum", terms, ">="))


def bound(model, claim, constraint):
    """The least fraction of the constraint by which the claim has to be raised to hold, or None."""
    _check_sums(claim, constraint)
    goal, rows = system_of(model, claim, 0)
    # With this row in front the method makes its multiplier, the fraction, as small as it can be.
    added = tuple([-told[-1] for told in contributions(model, constraint)])
    last = solve(start((goal, (added, *rows))))
    if choice(last)[0] == "infeasible":
        return None
    _, constants, _ = last
    return constants[0]


def _check_sums(claim, constraint):
    for one in (claim[1], constraint):
        if one[0] != "sum" or one[-1] != ">=":
            raise NotASum()


def _times(constraint, factor):
    return tuple([(factor * number, account, sector) for number, account, sector in constraint[1]])
