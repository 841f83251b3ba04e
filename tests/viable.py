"""The grammar of [42] and [180] as rules, and which tokens can go on behind the beginning of a text.

This is written without regard to how the program reads: the rules stand here as the document has them, and what
can go on is found by keeping all ways in which the tokens can be read side by side.
"""

from ledgerproof.tokens import split_text

RULES = """
entries = "[" "]" | "[" entry moreentries "]"
moreentries = | "," entry moreentries
entry = minus counted
minus = | "-"
counted = name | multiplier name
sum = minus term moreterms
moreterms = | "+" term moreterms | "-" term moreterms
term = counted "of" factor0
membersum = minus counted morecounted
morecounted = | "+" counted morecounted | "-" counted morecounted
constraint = sum relation | "each" sector0 ":" membersum relation
relation = ">=" zero | "=" zero
claim = constraint | "if" constraint premises "then" constraint
premises = | "," constraint premises
statement = "type" name ":" sector0 entries "to" sector0 entries ";"
statement = "assume" name ":" constraint ";" | "claim" name ":" claim ";" | "drop" name ";"
script = | statement script
names = name | name "," names
model = "sectors" ";" "accounts" names ";" script | "sectors" names ";" "accounts" names ";" script
question = "profiles" sector0 | "distinguish" sector0 "," sector0 | "conserved" | "obligations" claim | "decide" claim
question = "bound" claim "by" constraint | "statuses" | "core" name | "verdict" name | "evaluate" constraint
question = "refutes" claim | "minimize" claim | "types"
"""

SECTOR_RULES = """
sector{0} = conjunction{0} | sector{0} "or" conjunction{0}
conjunction{0} = factor{0} | conjunction{0} "and" factor{0}
factor{0} = "not" atom{0} | atom{0}
atom{0} = "all" | "none" | name
"""

MOST_OPEN = 6


def rules():
    """For each left side its alternatives; tokens stand for themselves, without quotation marks."""
    text = RULES
    for depth in range(MOST_OPEN + 1):
        text += SECTOR_RULES.format(depth)
        if depth < MOST_OPEN:
            text += 'atom{0} = "(" sector{1} ")"\n'.format(depth, depth + 1)
    found = {}
    for line in text.strip().split("\n"):
        if line:
            left, right = line.split(" =", 1)
            found.setdefault(left, []).extend(tuple(part.split()) for part in right.split("|"))
    return found


GRAMMAR = rules()


def sort_of(token):
    """How a token is called in the rules."""
    _, kind, value = token
    if kind == "number":
        return "zero" if value == 0 else "multiplier"
    return '"' + value + '"' if kind in ("word", "symbol") else kind


def closed(items, charts):
    """All ways of reading that these ones lead to without a further token."""
    here = len(charts)
    found = set()
    todo = list(items)
    empty = set()
    while todo:
        item = todo.pop()
        if item in found:
            continue
        found.add(item)
        left, right, at, begin = item
        if at < len(right) and right[at] in GRAMMAR:
            todo.extend((right[at], alternative, 0, here) for alternative in GRAMMAR[right[at]])
            if (right[at], here) in empty:
                todo.append((left, right, at + 1, begin))
        elif at == len(right):
            if begin == here:
                empty.add((left, here))
            parents = found if begin == here else charts[begin]
            for parent in list(parents):
                if parent[2] < len(parent[1]) and parent[1][parent[2]] == left:
                    todo.append((parent[0], parent[1], parent[2] + 1, parent[3]))
    return found


def expected(start, tokens):
    """For each token, and behind the last one, what can stand there behind the tokens before it."""
    charts = [closed([("whole", (start, "end"), 0, 0)], [])]
    told = []
    for token in (*tokens, None):
        told.append({right[at] for _, right, at, _ in charts[-1] if at < len(right) and right[at] not in GRAMMAR})
        if token is None or sort_of(token) not in told[-1]:
            return told
        step = [(left, right, at + 1, begin) for left, right, at, begin in charts[-1]
                if at < len(right) and right[at] == sort_of(token)]
        charts.append(closed(step, charts))
    return told


def refused_at(start, text):
    """The place of the first token that cannot go on, or None if the text is accepted."""
    return refused_among(start, split_text(text))


def refused_among(start, tokens):
    """The same for tokens."""
    told = expected(start, tokens)
    if len(told) == len(tokens) + 1:
        return None
    return tokens[len(told) - 1][0]
