"""Models, scripts, claims, constraints and sector expressions, read from texts."""

from ledgerproof.grammar import Cursor, claim_at, constraint_at, sector_at, sign_at
from ledgerproof.models import changed
from ledgerproof.tokens import split_text

MOST_SECTORS = 3
MOST_ACCOUNTS = 4

# For the first word of a statement: which part of a model it adds to, and how much that part may hold.
PARTS = {"type": (2, 5), "assume": (3, 3), "claim": (4, 8)}


def read_model(text):
    """The model that the text is read as."""
    cursor = Cursor(split_text(text), (), ())
    cursor.expect("sectors")
    cursor.sectors = () if cursor.sees(";") else _declared(cursor, MOST_SECTORS)
    cursor.expect(";")
    cursor.expect("accounts")
    cursor.accounts = _declared(cursor, MOST_ACCOUNTS)
    cursor.expect(";")
    _, model = _script(cursor, (cursor.sectors, cursor.accounts, (), (), ()))
    cursor.finish()
    return model


def read_script(model, text):
    """The script that the text is read as, for this model."""
    cursor = _cursor(model, text)
    script, _ = _script(cursor, model)
    cursor.finish()
    return script


def read_claim(model, text):
    """The claim that the text is read as."""
    cursor = _cursor(model, text)
    claim = claim_at(cursor)
    cursor.finish()
    return claim


def read_constraint(model, text):
    """The constraint that the text is read as."""
    cursor = _cursor(model, text)
    constraint = constraint_at(cursor)
    cursor.finish()
    return constraint


def read_sector(model, text):
    """The sector expression that the text is read as."""
    cursor = _cursor(model, text)
    sector = sector_at(cursor)
    cursor.finish()
    return sector


def _cursor(model, text):
    return Cursor(split_text(text), model[0], model[1])


def _declared(cursor, most):
    names = []
    while names == [] or cursor.passes(","):
        place = cursor.here()
        name = cursor.take_name()
        if len(names) >= most:
            cursor.report(place, "many")
        elif name in names:
            cursor.report(place, "duplicate")
        names.append(name)
    return tuple(names)


def _script(cursor, model):
    """Reads statements as long as there are any: the script, and the model behind the right ones of them."""
    script = []
    result = model
    while cursor.sees("type", "assume", "claim", "drop"):
        before = len(cursor.diagnostics)
        statement = _statement(cursor, result)
        if len(cursor.diagnostics) == before:
            result = changed(result, (statement,))
        script.append(statement)
    return (tuple(script), result)


def _statement(cursor, model):
    for word in ("type", "assume", "claim"):
        if cursor.passes(word):
            return _addition(cursor, model, word)
    cursor.expect("drop")
    place = cursor.here()
    name = cursor.take_name()
    if name not in _names(model):
        cursor.report(place, "name")
    cursor.expect(";")
    return ("drop", name)


def _addition(cursor, model, word):
    place = cursor.here()
    name = cursor.take_name()
    part, most = PARTS[word]
    if len(model[part]) >= most:
        cursor.report(place, "many")
    elif name in _names(model):
        cursor.report(place, "duplicate")
    cursor.expect(":")
    if word == "type":
        rest = _sides(cursor)
    elif word == "assume":
        rest = (constraint_at(cursor),)
    else:
        rest = (claim_at(cursor),)
    cursor.expect(";")
    return (word, name, *rest)


def _names(model):
    return [thing[0] for part in model[2:] for thing in part]


def _sides(cursor):
    payer = sector_at(cursor)
    payer_entries = _entries(cursor)
    cursor.expect("to")
    payee = sector_at(cursor)
    return (payer, payer_entries, payee, _entries(cursor))


def _entries(cursor):
    cursor.expect("[")
    if cursor.passes("]"):
        return ()
    entries = []
    while entries == [] or cursor.passes(","):
        entries.append(_entry(cursor, entries))
    cursor.expect("]")
    return tuple(entries)


def _entry(cursor, earlier):
    number = sign_at(cursor) * cursor.take_multiplier()
    place = cursor.here()
    account = cursor.take_name()
    if account not in cursor.accounts:
        cursor.report(place, "account")
    elif account in [entry[0] for entry in earlier]:
        cursor.report(place, "duplicate")
    return (account, number)
