"""Answers of models and of journals to questions."""

from ledgerproof.bounds import bound
from ledgerproof.cores import core
from ledgerproof.errors import NeedsJournal, NeedsModel
from ledgerproof.models import claim_named, conserved
from ledgerproof.obligations import contributions, obligations
from ledgerproof.sectors import distinguish, profiles
from ledgerproof.verdicts import decide, statuses_of


def answer(model, question):
    """The answer of the model to the question."""
    match question:
        case ("profiles", sector):
            return profiles(model, sector)
        case ("distinguish", first, second):
            return distinguish(model, first, second)
        case ("conserved",):
            return conserved(model)
        case ("obligations", claim):
            return obligations(model, claim)
        case ("decide", claim):
            return decide(model, claim)
        case ("bound", claim, constraint):
            return bound(model, claim, constraint)
        case ("statuses",):
            return statuses_of(model)
        case ("core", name):
            return core(model, name)
        case ("verdict", name):
            return decide(model, claim_named(model, name))
        case ("evaluate", constraint):
            return contributions(model, constraint)
    raise NeedsJournal()


def journal_answer(journal, question):
    """The answer of the journal to the question."""
    match question:
        case ("evaluate", constraint):
            return journal.value(constraint)
        case ("refutes", claim):
            return journal.refutes(claim)
        case ("minimize", claim):
            return journal.minimized(claim)
        case ("types",):
            return journal.by_type()
    raise NeedsModel()
