"""Models: the premises of claims, changes by scripts, conserved accounts."""

from ledgerproof.errors import UnknownClaim
from ledgerproof.sectors import profiles


def premises_of(model, claim):
    """The premises of the claim: those of the assumptions, then its own."""
    assumed = [assumption[1] for assumption in model[3]]
    return (*assumed, *claim[0])


def mentioned(model, claim):
    """The accounts that the claim mentions, in the order of the model."""
    constraints = (*premises_of(model, claim), claim[1])
    found = [term[1] for constraint in constraints for term in terms_of(constraint)]
    return tuple([account for account in model[1] if account in found])


def changed(model, script):
    """The model that results from applying the script."""
    result = model
    for statement in script:
        result = _applied(result, statement)
    return result


def conserved(model):
    """The accounts whose total is 0 in every ledger, in the order of the model."""
    # A type that nobody can pay or receive stands in no ledger, so its entries do not count.
    usable = [kind for kind in model[2] if profiles(model, kind[1]) != () and profiles(model, kind[3]) != ()]
    return tuple([account for account in model[1] if _adds_nothing(usable, account)])


def terms_of(constraint):
    """The terms of a sum or of an each."""
    return constraint[1] if constraint[0] == "sum" else constraint[2]


def kind_named(model, name):
    """The transaction type with this name, or None."""
    for kind in model[2]:
        if kind[0] == name:
            return kind
    return None


def claim_named(model, name):
    """The claim of the model with this name."""
    for other, claim in model[4]:
        if other == name:
            return claim
    raise UnknownClaim(name)


def entry_of(entries, account):
    """The number of the entry for the account, 0 if there is none."""
    for name, number in entries:
        if name == account:
            return number
    return 0


def _applied(model, statement):
    sectors, accounts, types, assumptions, claims = model
    word = statement[0]
    added = statement[1:]
    if word == "type":
        return (sectors, accounts, (*types, added), assumptions, claims)
    if word == "assume":
        return (sectors, accounts, types, (*assumptions, added), claims)
    if word == "claim":
        return (sectors, accounts, types, assumptions, (*claims, added))
    name = statement[1]
    return (sectors, accounts, _without(types, name), _without(assumptions, name), _without(claims, name))


def _without(named, name):
    return tuple([thing for thing in named if thing[0] != name])


def _adds_nothing(types, account):
    for _, _, payer_entries, _, payee_entries in types:
        if entry_of(payer_entries, account) + entry_of(payee_entries, account) != 0:
            return False
    return True
