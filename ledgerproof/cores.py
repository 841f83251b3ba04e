"""What a verdict needs: premises and transaction types that cannot be left out, and types that do not matter."""

from ledgerproof.errors import DoesNotHold, NotRefuted
from ledgerproof.models import claim_named, premises_of
from ledgerproof.obligations import obligations, system_of, unit_transactions
from ledgerproof.verdicts import holds


def core(model, name):
    """The names of the assumptions that the claim with this name needs, in order."""
    claim = claim_named(model, name)
    _check_holds(model, claim)
    sectors, accounts, types, assumptions, claims = model
    kept = _kept(assumptions, lambda left: holds((sectors, accounts, types, left, claims), claim))
    return tuple([assumptions[number][0] for number in kept])


def needed(model, claim):
    """The numbers of the premises that the claim needs, ascending."""
    _check_holds(model, claim)
    sectors, accounts, types, _, claims = model
    # Without assumptions the premises of a claim are its own, so that each one can be left out by itself.
    bare = (sectors, accounts, types, (), claims)
    return tuple(_kept(premises_of(model, claim), lambda left: holds(bare, (left, claim[1]))))


def causes(model, claim):
    """The names of the transaction types that refute the claim together, in order."""
    if holds(model, claim):
        raise NotRefuted()
    sectors, accounts, types, assumptions, claims = model
    kept = _kept(types, lambda left: not holds((sectors, accounts, left, assumptions, claims), claim))
    return tuple([types[number][0] for number in kept])


def idle(model, claim):
    """The names of the transaction types that add nothing to the conclusion and the premises, in order."""
    busy = {}
    for number, (profile, _, _) in enumerate(obligations(model, claim)):
        units = unit_transactions(model, profile)
        goal, rows = system_of(model, claim, number)
        for line in (goal, *rows):
            for unit, share in zip(units, line):
                if share != 0:
                    busy[unit[0]] = True
    return tuple([kind[0] for kind in model[2] if kind[0] not in busy])


def _check_holds(model, claim):
    if not holds(model, claim):
        raise DoesNotHold()


def _kept(things, goes):
    """The numbers of the things that remain if each one, from the last to the first, is left out where it goes."""
    kept = list(range(len(things)))
    for number in reversed(range(len(things))):
        others = [other for other in kept if other != number]
        if goes(tuple([things[other] for other in others])):
            kept = others
    return kept
