"""Verdicts: whether claims hold, with evidence for either answer."""

from ledgerproof.certificates import first_defect
from ledgerproof.dictionaries import amounts, choice, multipliers, solve, start
from ledgerproof.flows import made
from ledgerproof.ledgers import problem, refutes
from ledgerproof.obligations import obligations, parts, system_of


def decide(model, claim):
    """The verdict on the claim, with a certificate or with a ledger that refutes the claim."""
    certificate = []
    for number, (profile, _, _) in enumerate(obligations(model, claim)):
        last = solve(start(system_of(model, claim, number)))
        if choice(last)[0] == "infeasible":
            return ("refuted", number, made(model, profile, amounts(last)))
        certificate.append(multipliers(last))
    return ("holds", tuple(certificate))


def holds(model, claim):
    """Whether the verdict is that the claim holds."""
    return decide(model, claim)[0] == "holds"


def statuses_of(model):
    """For each claim of the model its name and whether it holds or is refuted."""
    return tuple([(name, decide(model, claim)[0]) for name, claim in model[4]])


def confirmed(model, claim, verdict):
    """Whether the evidence of the verdict proves what the verdict says, whoever made it."""
    if verdict[0] == "holds":
        return first_defect(model, claim, verdict[1]) is None
    _, number, ledger = verdict
    found = parts(model, claim)
    # A negative number is no number of an obligation, although it would find one from the end.
    if not 0 <= number < len(found) or problem(model, ledger) is not None:
        return False
    return refutes(model, ledger, found[number])
