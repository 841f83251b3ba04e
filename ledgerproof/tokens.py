"""The tokens of texts and of templates: triples of a place, a kind and a value."""

from ledgerproof.errors import BadValue

LETTERS = "abcdefghijklmnopqrstuvwxyz"
DIGITS = "0123456789"
BLANKS = " \n"
LONGEST_NAME = 12
MOST_DIGITS = 4
GREATEST_NUMBER = 9999

SYMBOLS = ("(", ")", "+", ",", "-", ":", ";", "=", "[", "]", ">=")

RESERVED = (
    "sectors", "accounts", "type", "to", "if", "then", "each", "of", "not", "and", "or", "all", "none",
    "assume", "claim", "drop", "profiles", "distinguish", "conserved", "obligations", "evaluate", "decide",
    "bound", "by", "statuses", "core", "verdict", "refutes", "minimize", "types",
)


def split_text(text):
    """The tokens of the text, up to its end or its first invalid token."""
    tokens = []
    place = _run_end(text, 0, BLANKS)
    while place < len(text):
        stop = _token_end(text, place)
        kind, value = _kind_and_value(text[place:stop])
        tokens.append((place, kind, value))
        if kind == "invalid":
            return tuple(tokens)
        place = _run_end(text, stop, BLANKS)
    tokens.append((len(text), "end", ""))
    return tuple(tokens)


def filled(texts, values):
    """The tokens of the template with these texts and, between them, these values."""
    _check_values(values)
    tokens = []
    start = 0
    for text, value in zip(texts[:-1], values):
        # Each text is divided by itself: a value merges with nothing that stands beside it.
        tokens.extend(_moved(split_text(text), start))
        if tokens[-1][1] == "invalid":
            return tuple(tokens)
        tokens.pop()
        start += len(text)
        tokens.append((start, "name" if isinstance(value, str) else "number", value))
        start += len(str(value))
    tokens.extend(_moved(split_text(texts[-1]), start))
    return tuple(tokens)


def is_name(text):
    """Whether the text is a name: 1 to 12 letters, and no reserved word."""
    if text == "" or _run_end(text, 0, LETTERS) < len(text):
        return False
    return len(text) <= LONGEST_NAME and text not in RESERVED


def _run_end(text, place, characters):
    end = place
    while end < len(text) and text[end] in characters:
        end += 1
    return end


def _token_end(text, place):
    for characters in (LETTERS, DIGITS):
        if text[place] in characters:
            return _run_end(text, place, characters)
    if text[place:place + 2] == ">=":
        return place + 2
    return place + 1


def _kind_and_value(piece):
    if piece in RESERVED:
        return ("word", piece)
    if is_name(piece):
        return ("name", piece)
    if _is_number(piece):
        return ("number", int(piece))
    if piece in SYMBOLS:
        return ("symbol", piece)
    return ("invalid", "")


def _is_number(piece):
    if _run_end(piece, 0, DIGITS) < len(piece) or len(piece) > MOST_DIGITS:
        return False
    return piece == "0" or piece[0] != "0"


def _check_values(values):
    for number, value in enumerate(values):
        good = is_name(value) if isinstance(value, str) else 0 <= value <= GREATEST_NUMBER
        if not good:
            raise BadValue(number)


def _moved(tokens, start):
    return [(start + place, kind, value) for place, kind, value in tokens]
