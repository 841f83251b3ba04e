"""Sector expressions, constraints and claims, read from tokens one by one.

Everything that is listed as a diagnostic stands in the order of the text, so it is reported while the tokens are
read; it is raised at the end of the text only, because a text that the grammar refuses has no diagnostics.
"""

from ledgerproof.errors import Mistakes, ReadError

MOST_OPEN = 6
MOST_LEAVES = 12
MOST_TERMS = 6
MOST_PREMISES = 4


class Cursor:
    """A place between the tokens of a text, with what was found out on the way to it."""

    def __init__(self, tokens, sectors, accounts):
        self.tokens = tokens
        self.sectors = sectors
        self.accounts = accounts
        self.diagnostics = []
        self.leaves = 0
        self._at = 0

    def here(self):
        """The place of the next token."""
        return self.tokens[self._at][0]

    def sees(self, *signs):
        """Whether the next token is one of these words and symbols."""
        # No name, number, end or invalid token has the value of a word or symbol, so the kind need not be asked.
        return self.tokens[self._at][2] in signs

    def passes(self, sign):
        """Goes over the next token if it is this word or symbol, and tells whether it is."""
        found = self.sees(sign)
        if found:
            self._at += 1
        return found

    def expect(self, sign):
        """Goes over this word or symbol, which has to stand next."""
        if not self.passes(sign):
            raise ReadError(self.here())

    def take_name(self):
        """Goes over the name that has to stand next, and returns it."""
        place, kind, name = self.tokens[self._at]
        if kind != "name":
            raise ReadError(place)
        self._at += 1
        return name

    def take_multiplier(self):
        """Goes over the multiplier if one stands next, and returns it; 1 if there is none."""
        _, kind, number = self.tokens[self._at]
        if kind != "number" or number == 0:
            return 1
        self._at += 1
        return number

    def take_zero(self):
        """Goes over the number 0, which has to stand next."""
        place, kind, number = self.tokens[self._at]
        if kind != "number" or number != 0:
            raise ReadError(place)
        self._at += 1

    def report(self, place, reason):
        """Keeps a diagnostic."""
        self.diagnostics.append((place, reason))

    def finish(self):
        """Raises what is wrong with the text if the next token is not the end or there are diagnostics."""
        place, kind, _ = self.tokens[self._at]
        if kind != "end":
            raise ReadError(place)
        if self.diagnostics != []:
            raise Mistakes(tuple(self.diagnostics))


def sector_at(cursor):
    """Reads a sector expression."""
    cursor.leaves = 0
    return _sector(cursor, 0)


def constraint_at(cursor):
    """Reads a constraint."""
    if cursor.passes("each"):
        sector = sector_at(cursor)
        cursor.expect(":")
        terms = _terms(cursor, False)
        return ("each", sector, terms, _relation(cursor))
    terms = _terms(cursor, True)
    return ("sum", terms, _relation(cursor))


def claim_at(cursor):
    """Reads a claim."""
    premises = []
    if cursor.passes("if"):
        premises.append(constraint_at(cursor))
        while cursor.passes(","):
            if len(premises) >= MOST_PREMISES:
                cursor.report(cursor.here(), "many")
            premises.append(constraint_at(cursor))
        cursor.expect("then")
    return (tuple(premises), constraint_at(cursor))


def sign_at(cursor):
    """Reads the `-` that may stand before a first term or an entry: -1 if it does, otherwise 1."""
    return -1 if cursor.passes("-") else 1


def _sector(cursor, depth):
    sector = _conjunction(cursor, depth)
    while cursor.passes("or"):
        sector = ("or", sector, _conjunction(cursor, depth))
    return sector


def _conjunction(cursor, depth):
    sector = _factor(cursor, depth)
    while cursor.passes("and"):
        sector = ("and", sector, _factor(cursor, depth))
    return sector


def _factor(cursor, depth):
    if cursor.passes("not"):
        return ("not", _atom(cursor, depth))
    return _atom(cursor, depth)


def _atom(cursor, depth):
    # Behind six open parentheses a seventh is refused like any other token that cannot stand here.
    if depth < MOST_OPEN and cursor.passes("("):
        sector = _sector(cursor, depth + 1)
        cursor.expect(")")
        return sector
    return _leaf(cursor)


def _leaf(cursor):
    place = cursor.here()
    if cursor.passes("all"):
        leaf = ("all",)
    elif cursor.passes("none"):
        leaf = ("none",)
    else:
        leaf = ("sector", cursor.take_name())
    cursor.leaves += 1
    if cursor.leaves > MOST_LEAVES:
        cursor.report(place, "many")
    elif leaf[0] == "sector" and leaf[1] not in cursor.sectors:
        cursor.report(place, "sector")
    return leaf


def _terms(cursor, summed):
    terms = [_term(cursor, sign_at(cursor), summed, False)]
    while cursor.sees("+", "-"):
        sign = 1 if cursor.passes("+") else sign_at(cursor)
        terms.append(_term(cursor, sign, summed, len(terms) >= MOST_TERMS))
    return tuple(terms)


def _term(cursor, sign, summed, beyond):
    number = sign * cursor.take_multiplier()
    place = cursor.here()
    account = cursor.take_name()
    if beyond:
        cursor.report(place, "many")
    elif account not in cursor.accounts:
        cursor.report(place, "account")
    if not summed:
        return (number, account)
    cursor.expect("of")
    cursor.leaves = 0
    return (number, account, _factor(cursor, 0))


def _relation(cursor):
    relation = ">=" if cursor.passes(">=") else "="
    if relation == "=":
        cursor.expect("=")
    cursor.take_zero()
    return relation
