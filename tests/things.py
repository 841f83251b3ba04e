"""Sector expressions, constraints, claims, scripts, models, ledgers and systems, drawn from a source.

The source is one that always draws the same, so that the tests always try the same things.
"""

LETTERS = "abcdefghijklmnopqrstuvwxyz"


def sector(source, sectors, depth=3):
    """A sector expression whose operators are nested at most so deep."""
    if depth == 0 or source.random() < 0.3:
        return source.choice([("all",), ("none",), *[("sector", name) for name in sectors] * 2])
    word = source.choice(("not", "and", "or"))
    if word == "not":
        return ("not", sector(source, sectors, depth - 1))
    return (word, sector(source, sectors, depth - 1), sector(source, sectors, depth - 1))


def number(source):
    """A number of a term or an entry: small ones more often."""
    return source.choice((1, -1, 2, -2, 3, -5, 9999, -9999))


def constraint(source, model, depth=3, most=6):
    relation = source.choice((">=", "="))
    count = source.randint(1, most)
    if source.random() < 0.5:
        terms = [(number(source), source.choice(model[1]), sector(source, model[0], depth)) for _ in range(count)]
        return ("sum", tuple(terms), relation)
    terms = [(number(source), source.choice(model[1])) for _ in range(count)]
    return ("each", sector(source, model[0], depth), tuple(terms), relation)


def claim(source, model, depth=3, most=6, premises=4):
    own = [constraint(source, model, depth, most) for _ in range(source.randint(0, premises))]
    return (tuple(own), constraint(source, model, depth, most))


def entries(source, accounts):
    chosen = source.sample(accounts, source.randint(0, len(accounts)))
    return tuple((account, number(source)) for account in chosen)


def kind(source, sectors, accounts, name, depth=3):
    return (name, sector(source, sectors, depth), entries(source, accounts), sector(source, sectors, depth),
            entries(source, accounts))


def model(source, depth=3, most=(3, 4, 5, 3, 8), premises=4):
    sectors = tuple(source.sample(("home", "firm", "bank", "state"), source.randint(0, most[0])))
    accounts = tuple(source.sample(("cash", "debt", "home", "stock"), source.randint(1, most[1])))
    bare = (sectors, accounts, (), (), ())
    names = source.sample(LETTERS, 20)
    types = [kind(source, sectors, accounts, names.pop(), depth) for _ in range(source.randint(0, most[2]))]
    assumptions = [(names.pop(), constraint(source, bare, depth)) for _ in range(source.randint(0, most[3]))]
    claims = [(names.pop(), claim(source, bare, depth, 6, premises)) for _ in range(source.randint(0, most[4]))]
    return (sectors, accounts, tuple(types), tuple(assumptions), tuple(claims))


def script(source, start, many=8):
    """A script that is right for the model."""
    parts = [[thing[0] for thing in part] for part in start[2:]]
    statements = []
    for _ in range(many):
        taken = [name for part in parts for name in part]
        sort = source.choice(("type", "assume", "claim", "drop"))
        name = source.choice([name for name in LETTERS if name not in taken])
        if sort == "drop" and taken:
            name = source.choice(taken)
            parts = [[other for other in part if other != name] for part in parts]
            statements.append(("drop", name))
        elif sort == "type" and len(parts[0]) < 5:
            parts[0].append(name)
            statements.append(("type", *kind(source, start[0], start[1], name)))
        elif sort == "assume" and len(parts[1]) < 3:
            parts[1].append(name)
            statements.append(("assume", name, constraint(source, start)))
        elif sort == "claim" and len(parts[2]) < 8:
            parts[2].append(name)
            statements.append(("claim", name, claim(source, start)))
    return tuple(statements)


def holds_for(profile, sectors, expression):
    """Whether a set of names of sectors belongs to the expression."""
    word = expression[0]
    if word == "sector":
        return expression[1] in profile
    if word == "not":
        return not holds_for(profile, sectors, expression[1])
    if word in ("and", "or"):
        both = [holds_for(profile, sectors, part) for part in expression[1:]]
        return all(both) if word == "and" else any(both)
    return word == "all"


def ledger(source, start, people=5, many=8, amounts=9):
    """A ledger of the model, with participants whose sectors stand in any order."""
    participants = []
    for _ in range(source.randint(0, people)):
        names = [name for name in start[0] if source.random() < 0.5]
        participants.append(tuple(source.sample(names, len(names))))
    transactions = []
    for _ in range(many):
        if start[2] and len(participants) > 1:
            chosen = source.choice(start[2])
            payer, payee = source.sample(range(len(participants)), 2)
            if (holds_for(participants[payer], start[0], chosen[1])
                    and holds_for(participants[payee], start[0], chosen[3])):
                transactions.append((chosen[0], payer, payee, source.randint(1, amounts)))
    return (tuple(participants), tuple(transactions))


def system(source, most_units=6, most_rows=4, size=4):
    units = source.randint(0, most_units)
    rows = source.randint(0, most_rows)
    return (
        tuple(source.randint(-size, size) for _ in range(units)),
        tuple(tuple(source.randint(-size, size) for _ in range(units)) for _ in range(rows)),
    )


def people(source, sectors):
    """A sector expression to which some profile belongs more often than not."""
    choices = [("all",), *[("sector", name) for name in sectors] * 2, *[("not", ("sector", name)) for name in sectors]]
    if source.random() < 0.15:
        return sector(source, sectors, 2)
    return source.choice(choices)


def small_constraint(source, model, form=None, relation=None, most=2):
    """A constraint with small numbers, of the form and with the relation that are told, if they are."""
    form = form or source.choice(("sum", "each"))
    relation = relation or source.choice((">=", ">=", "="))
    numbers = [source.choice((1, 1, 1, -1, 2, -2, 3)) for _ in range(source.randint(1, most))]
    if form == "sum":
        terms = [(one, source.choice(model[1]), people(source, model[0])) for one in numbers]
        return ("sum", tuple(terms), relation)
    return ("each", people(source, model[0]), tuple((one, source.choice(model[1])) for one in numbers), relation)


def small_claim(source, model, premises=3, form=None, relation=None):
    own = [small_constraint(source, model) for _ in range(source.randint(0, premises))]
    return (tuple(own), small_constraint(source, model, form, relation))


def small_model(source, most=(2, 2, 3, 2, 0)):
    """A model with small numbers, in which claims hold and are refuted about equally often."""
    sectors = ("a", "b", "c")[:source.randint(0, most[0])]
    accounts = ("x", "y", "z")[:source.randint(1, most[1])]
    types = []
    for name in ("t", "u", "v", "w", "s")[:source.randint(0, most[2])]:
        first, second = source.choice(accounts), source.choice(accounts)
        payer_entries = ((first, -source.choice((1, 1, 2, 3))),) if source.random() < 0.6 else ()
        payee_entries = ((second, source.choice((1, 1, 2, 3))),) if source.random() < 0.9 else ()
        types.append((name, people(source, sectors), payer_entries, people(source, sectors), payee_entries))
    bare = (sectors, accounts, (), (), ())
    assumptions = [(name, small_constraint(source, bare)) for name in ("p", "q", "r")[:source.randint(0, most[3])]]
    claims = [(name, small_claim(source, bare)) for name in "cdefghij"[:source.randint(0, most[4])]]
    return (sectors, accounts, tuple(types), tuple(assumptions), tuple(claims))
