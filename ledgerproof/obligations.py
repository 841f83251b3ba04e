"""Obligations of claims, the units and rows that belong to them, and the systems that they lead to."""

from ledgerproof.errors import NotASum
from ledgerproof.measures import worth
from ledgerproof.models import premises_of
from ledgerproof.sectors import belongs, exactly, profile_count, profiles


def obligations(model, claim):
    """The obligations of the claim: triples of a profile or None, a sign, and the rows."""
    found = []
    for profile in _distinguished(model, claim[1]):
        rows = _rows(model, claim, profile)
        found.extend([(profile, sign, rows) for sign in _signs(claim[1])])
    return tuple(found)


def unit_transactions(model, profile):
    """The units for a distinguished participant with this profile, or for none."""
    members = group_profiles(model, profile)
    apart = profile_count(model)
    units = []
    for name, payer_sector, _, payee_sector, _ in model[2]:
        payers = _groups_in(model, members, payer_sector)
        payees = _groups_in(model, members, payee_sector)
        # Nobody pays themselves, and the distinguished participant is the only one of its group.
        pairs = [(payer, payee) for payer in payers for payee in payees if payer != apart or payee != apart]
        units.extend([(name, payer, payee) for payer, payee in pairs])
    return tuple(units)


def system_of(model, claim, number):
    """The system of the obligation with this number."""
    profile, sign, rows = obligations(model, claim)[number]
    premises = premises_of(model, claim)
    units = unit_transactions(model, profile)
    shares = [_shares(model, premise, profile, units) for premise in premises]
    apart = None if profile is None else profile_count(model)
    goal = _line(units, _shares(model, claim[1], profile, units), apart, sign)
    return (goal, tuple([_line(units, shares[premise], group, mark) for premise, group, mark in rows]))


def parts(model, claim):
    """The parts of the claim, one for each obligation."""
    premises, conclusion = claim
    found = []
    for profile, sign, _ in obligations(model, claim):
        terms = tuple([(sign * term[0], *term[1:]) for term in conclusion[-2]])
        front = ("sum",) if profile is None else ("each", exactly(model, profile))
        found.append((premises, (*front, terms, ">=")))
    return tuple(found)


def aggregated(model, claim):
    """The claim with sums in the place of own premises about each member."""
    premises, conclusion = claim
    if conclusion[0] == "each":
        raise NotASum()
    sums = []
    for premise in premises:
        sums.extend([premise] if premise[0] == "sum" else _sums_of(model, premise))
    return (tuple(sums), conclusion)


def contributions(model, constraint):
    """For each unit without a distinguished participant what it contributes to the sum."""
    if constraint[0] == "each":
        raise NotASum()
    units = unit_transactions(model, None)
    line = _line(units, _shares(model, constraint, None, units), None, 1)
    return tuple([(*unit, number) for unit, number in zip(units, line)])


def group_profiles(model, profile):
    """The profile of each group if the distinguished participant has this profile, or if there is none."""
    everybody = list(range(profile_count(model)))
    return everybody if profile is None else [*everybody, profile]


def _distinguished(model, conclusion):
    return (None,) if conclusion[0] == "sum" else profiles(model, conclusion[1])


def _signs(constraint):
    return (1, -1) if constraint[-1] == "=" else (1,)


def _groups_in(model, members, sector):
    return [group for group, profile in enumerate(members) if belongs(model, profile, sector)]


def _rows(model, claim, profile):
    members = group_profiles(model, profile)
    rows = []
    for number, premise in enumerate(premises_of(model, claim)):
        groups = [None] if premise[0] == "sum" else _groups_in(model, members, premise[1])
        rows.extend([(number, group, sign) for group in groups for sign in _signs(premise)])
    return tuple(rows)


def _sums_of(model, premise):
    """The sums that stand for a premise about each member of a sector."""
    _, sector, terms, relation = premise
    sums = []
    for profile in profiles(model, sector):
        people = exactly(model, profile)
        sums.append(("sum", tuple([(number, account, people) for number, account in terms]), relation))
    return sums


def _shares(model, constraint, profile, units):
    """For each unit what its payer and what its payee add to the value of the constraint."""
    members = group_profiles(model, profile)
    # There are many more units than pairs of a type and a group, so each pair is looked at once.
    paid = {kind[0]: [worth(model, constraint, member, kind[2]) for member in members] for kind in model[2]}
    received = {kind[0]: [worth(model, constraint, member, kind[4]) for member in members] for kind in model[2]}
    return [(paid[name][payer], received[name][payee]) for name, payer, payee in units]


def _line(units, shares, group, sign):
    """The contributions of the units for this group, or for everybody if it is None, times the sign."""
    line = []
    for (_, payer, payee), (paid, received) in zip(units, shares):
        total = 0
        if group is None or group == payer:
            total += paid
        if group is None or group == payee:
            total += received
        line.append(sign * total)
    return tuple(line)
