"""Questions as texts: read from templates, and printed."""

from ledgerproof.errors import ReadError
from ledgerproof.grammar import Cursor, claim_at, constraint_at, sector_at
from ledgerproof.printer import show_claim, show_constraint, show_sector
from ledgerproof.tokens import filled

WORDS = (
    "profiles", "distinguish", "conserved", "obligations", "decide", "bound", "statuses", "core", "verdict",
    "evaluate", "refutes", "minimize", "types",
)


def read_question(model, texts, values=()):
    """The question that the template of these texts and values is read as."""
    cursor = Cursor(filled(texts, values), model[0], model[1])
    question = _question(cursor, model)
    cursor.finish()
    return question


def show_question(question):
    """The printed form of the question."""
    match question:
        case ("profiles", sector):
            return "profiles " + show_sector(sector)
        case ("distinguish", first, second):
            return "distinguish " + show_sector(first) + ", " + show_sector(second)
        case ("bound", claim, constraint):
            return "bound " + show_claim(claim) + " by " + show_constraint(constraint)
        case ("evaluate", constraint):
            return "evaluate " + show_constraint(constraint)
        case ("core", name):
            return "core " + name
        case ("verdict", name):
            return "verdict " + name
        case (word, claim):
            return word + " " + show_claim(claim)
    return question[0]


def _question(cursor, model):
    for word in WORDS:
        if cursor.passes(word):
            return (word, *_parts(cursor, model, word))
    raise ReadError(cursor.here())


def _parts(cursor, model, word):
    """Reads what stands behind the word of a question."""
    if word == "profiles":
        return (sector_at(cursor),)
    if word == "distinguish":
        first = sector_at(cursor)
        cursor.expect(",")
        return (first, sector_at(cursor))
    if word == "bound":
        claim = claim_at(cursor)
        cursor.expect("by")
        return (claim, constraint_at(cursor))
    if word == "evaluate":
        return (constraint_at(cursor),)
    if word in ("core", "verdict"):
        return (_claim_name(cursor, model),)
    if word in ("obligations", "decide", "refutes", "minimize"):
        return (claim_at(cursor),)
    return ()


def _claim_name(cursor, model):
    place = cursor.here()
    name = cursor.take_name()
    if name not in [claim[0] for claim in model[4]]:
        cursor.report(place, "claim")
    return name
