"""What entries and balances mean to constraints."""

from ledgerproof.models import entry_of
from ledgerproof.sectors import belongs


def worth(model, constraint, profile, entries):
    """What these entries of a participant with this profile add to the value of the constraint.

    The entries are those of a transaction type, or the accounts with the balances of the participant. For an each
    the participant is taken for the member that the value is about.
    """
    if constraint[0] == "each":
        return sum([number * entry_of(entries, account) for number, account in constraint[2]])
    total = 0
    for number, account, sector in constraint[1]:
        if belongs(model, profile, sector):
            total += number * entry_of(entries, account)
    return total


def meets(number, constraint):
    """Whether a value of the constraint is one that its relation asks for."""
    return number == 0 if constraint[-1] == "=" else number >= 0
