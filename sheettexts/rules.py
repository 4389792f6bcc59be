"""Sheets of rules: each rule gives a name to a text made of other names' texts."""

from sheettexts.tokens import NotParted, tokens_of

MOST_BYTES = 16384
MOST_TOKENS = 4096
MOST_DEEP = 32
MOST_RULES = 64

NUMBER_FORM = 0
REFUSAL_FORM = 1

TOO_MUCH = -28
NOT_READABLE = -71
ONE_NAME_TWICE = -22


class NoSheet(Exception):
    pass


# The functions "behind_.." are handed the kinds of all tokens and where
# something is to begin, and answer where that ends.


def behind_kind(kinds, at, kind):
    if kinds[at] != kind:
        raise NoSheet()
    return at + 1


def behind_part(kinds, at, depth):
    kind = kinds[at]
    if kind in ("string", "name"):
        return at + 1
    if kind in ("get", "size", "first", "rest"):
        at = at + 1
    at = behind_kind(kinds, at, "(")
    at = behind_formula(kinds, at, depth + 1)
    if kind in ("first", "rest"):
        at = behind_kind(kinds, at, ",")
        at = behind_kind(kinds, at, "number")
    return behind_kind(kinds, at, ")")


def behind_join(kinds, at, depth):
    at = behind_part(kinds, at, depth)
    while kinds[at] == "&":
        at = behind_part(kinds, at + 1, depth)
    return at


def behind_choice(kinds, at, depth):
    at = behind_kind(kinds, at, "if")
    at = behind_join(kinds, at, depth)
    at = behind_kind(kinds, at, "=")
    at = behind_join(kinds, at, depth)
    at = behind_kind(kinds, at, "then")
    at = behind_formula(kinds, at, depth + 1)
    at = behind_kind(kinds, at, "else")
    return behind_formula(kinds, at, depth + 1)


def behind_formula(kinds, at, depth):
    # Looked at before going in: so the calls within one another stay few.
    if depth > MOST_DEEP:
        raise NoSheet()
    if kinds[at] == "if":
        return behind_choice(kinds, at, depth)
    return behind_join(kinds, at, depth)


def names_of_rules(tokens):
    # With "end" behind the last token there is always a kind to look at.
    kinds = [kind for kind, body in tokens] + ["end"]
    names = []
    at = 0
    while kinds[at] != "end":
        start = at
        at = behind_kind(kinds, at, "name")
        at = behind_kind(kinds, at, "=")
        at = behind_formula(kinds, at, 1)
        at = behind_kind(kinds, at, ";")
        names.append(tokens[start][1])
    return names


def first_repeated(names):
    seen = {}
    for number, name in enumerate(names):
        if name in seen:
            return number
        seen[name] = True
    return None


def refusal(number, at):
    return [REFUSAL_FORM, number, at]


def read_names(names):
    if len(names) > MOST_RULES:
        return refusal(TOO_MUCH, MOST_RULES)
    second = first_repeated(names)
    if second is not None:
        return refusal(ONE_NAME_TWICE, second)
    return [NUMBER_FORM, len(names)]


def ru_read(t):
    if len(t) > MOST_BYTES:
        return refusal(TOO_MUCH, 0)
    try:
        tokens = tokens_of(t)
    except NotParted:
        return refusal(NOT_READABLE, 0)
    if len(tokens) > MOST_TOKENS:
        return refusal(TOO_MUCH, 0)
    try:
        names = names_of_rules(tokens)
    except NoSheet:
        return refusal(NOT_READABLE, 0)
    return read_names(names)
