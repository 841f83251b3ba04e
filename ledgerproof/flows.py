"""Small ledgers: the flows of the units, and the ledgers that amounts make."""

from ledgerproof.ledgers import profiles_in
from ledgerproof.obligations import unit_transactions
from ledgerproof.sectors import names_of, profile_count


def flows(model, ledger, *, apart=None):
    """The flow of each unit, with the participant of this number apart, or with none."""
    participants, transactions = ledger
    groups = profiles_in(model, participants)
    profile = None
    if apart is not None:
        profile = groups[apart]
        groups[apart] = profile_count(model)
    sums = {unit: 0 for unit in unit_transactions(model, profile)}
    for name, payer, payee, amount in transactions:
        sums[(name, groups[payer], groups[payee])] += amount
    return tuple(sums.values())


def made(model, profile, amounts):
    """The ledger that the amounts make, for a distinguished participant with this profile, or for none."""
    used = [(unit, amount) for unit, amount in zip(unit_transactions(model, profile), amounts) if amount > 0]
    participants = []
    seats = {}
    for group in range(profile_count(model)):
        if any([group in unit[1:] for unit, _ in used]):
            seats[group] = (len(participants), len(participants) + 1)
            participants.extend([names_of(model, group), names_of(model, group)])
    if profile is not None:
        seats[profile_count(model)] = (len(participants), len(participants))
        participants.append(names_of(model, profile))
    transactions = []
    for (name, payer, payee), amount in used:
        # Within one group the first pays the second and the second the first: nobody pays themselves.
        payees = seats[payee][::-1] if payer == payee else seats[payee]
        transactions.extend([(name, giver, taker, amount) for giver, taker in zip(seats[payer], payees)])
    return (tuple(participants), tuple(transactions))


def paired(model, ledger, *, apart=None):
    """The paired ledger, with the participant of this number apart, or with none."""
    profile = None if apart is None else profiles_in(model, ledger[0])[apart]
    return made(model, profile, flows(model, ledger, apart=apart))
