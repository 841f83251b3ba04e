"""The printed forms of sector expressions, constraints, claims, scripts and models."""


def show_sector(sector):
    """The printed form of the sector expression."""
    word = sector[0]
    if word == "sector":
        return sector[1]
    if word == "not":
        return "not " + _enclosed(sector[1], ("not", "and", "or"))
    if word == "and":
        return _enclosed(sector[1], ("or",)) + " and " + _enclosed(sector[2], ("and", "or"))
    if word == "or":
        return show_sector(sector[1]) + " or " + _enclosed(sector[2], ("or",))
    return word


def show_constraint(constraint):
    """The printed form of the constraint."""
    terms, relation = constraint[-2:]
    front = "" if constraint[0] == "sum" else "each " + show_sector(constraint[1]) + ": "
    return front + _joined(terms) + " " + relation + " 0"


def show_claim(claim):
    """The printed form of the claim."""
    premises, conclusion = claim
    shown = show_constraint(conclusion)
    if premises == ():
        return shown
    return "if " + ", ".join([show_constraint(premise) for premise in premises]) + " then " + shown


def show_script(script):
    """The printed form of the script, which need not be right for a model."""
    return "\n".join([_statement(statement) for statement in script])


def show_model(model):
    """The printed form of the model."""
    sectors, accounts, types, assumptions, claims = model
    lines = [_declaration("sectors", sectors), _declaration("accounts", accounts)]
    for word, things in (("type", types), ("assume", assumptions), ("claim", claims)):
        lines.extend([_statement((word, *thing)) for thing in things])
    return "\n".join(lines)


def _enclosed(sector, words):
    """The printed form, in parentheses if the operator of the expression is one of these words."""
    if sector[0] in words:
        return "(" + show_sector(sector) + ")"
    return show_sector(sector)


def _joined(terms):
    shown = "-" if terms[0][0] < 0 else ""
    shown += _term(terms[0])
    for term in terms[1:]:
        shown += (" - " if term[0] < 0 else " + ") + _term(term)
    return shown


def _term(term):
    """The printed form of a term without its sign."""
    shown = _counted(term[0], term[1])
    if len(term) == 2:
        return shown
    return shown + " of " + _enclosed(term[2], ("and", "or"))


def _counted(number, account):
    return account if abs(number) == 1 else f"{abs(number)} {account}"


def _entries(entries):
    shown = [("-" if number < 0 else "") + _counted(number, account) for account, number in entries]
    return "[" + ", ".join(shown) + "]"


def _statement(statement):
    word, name = statement[:2]
    if word == "drop":
        return "drop " + name + ";"
    front = word + " " + name + ": "
    if word == "assume":
        return front + show_constraint(statement[2]) + ";"
    if word == "claim":
        return front + show_claim(statement[2]) + ";"
    payer, payer_entries, payee, payee_entries = statement[2:]
    shown = [show_sector(payer), _entries(payer_entries), "to", show_sector(payee), _entries(payee_entries)]
    return front + " ".join(shown) + ";"


def _declaration(word, names):
    return word + ";" if names == () else word + " " + ", ".join(names) + ";"
