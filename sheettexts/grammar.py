"""The grammar of a sheet: makes rules of tokens.

A rule is a tuple (name, steps). Its steps work its formula out, one behind the
other, over a pile of texts: each takes from the pile the texts of its parts
and leaves its own there. A step is a tuple (what, value):

    ("string", bytes)  leaves these bytes
    ("name", name)     reads this name
    ("&", None)        takes two texts, leaves them put together
    ("get", None)      takes a text, reads the name that it tells
    ("size", None)     takes a text, leaves how many bytes it has
    ("first", k)       takes a text, leaves its first k bytes
    ("rest", k)        takes a text, leaves what is behind these
    ("differ", place)  takes two texts; where they differ goes on at that place
    ("go", place)      goes on at that place
    ("end", None)      the formula's text is left
"""

MOST_DEEP = 32


class NoSheet(Exception):
    pass


# The functions "behind_.." are handed all tokens and where something is to
# begin, put its steps behind those that are there, and answer where it ends.


def behind_kind(tokens, at, kind):
    if tokens[at][0] != kind:
        raise NoSheet()
    return at + 1


def behind_part(tokens, at, depth, steps):
    token = tokens[at]
    kind = token[0]
    if kind in ("string", "name"):
        steps.append(token)
        return at + 1
    if kind in ("get", "size", "first", "rest"):
        at = at + 1
    at = behind_kind(tokens, at, "(")
    at = behind_formula(tokens, at, depth + 1, steps)
    if kind in ("first", "rest"):
        at = behind_kind(tokens, at, ",")
        at = behind_kind(tokens, at, "number")
        steps.append((kind, tokens[at - 1][1]))
    elif kind in ("get", "size"):
        steps.append((kind, None))
    return behind_kind(tokens, at, ")")


def behind_join(tokens, at, depth, steps):
    at = behind_part(tokens, at, depth, steps)
    while tokens[at][0] == "&":
        at = behind_part(tokens, at + 1, depth, steps)
        steps.append(("&", None))
    return at


def behind_choice(tokens, at, depth, steps):
    at = behind_kind(tokens, at, "if")
    at = behind_join(tokens, at, depth, steps)
    at = behind_kind(tokens, at, "=")
    at = behind_join(tokens, at, depth, steps)
    at = behind_kind(tokens, at, "then")
    # Where these two lead is known only behind what they lead past.
    differ = len(steps)
    steps.append(("differ", None))
    at = behind_formula(tokens, at, depth + 1, steps)
    go = len(steps)
    steps.append(("go", None))
    steps[differ] = ("differ", len(steps))
    at = behind_kind(tokens, at, "else")
    at = behind_formula(tokens, at, depth + 1, steps)
    steps[go] = ("go", len(steps))
    return at


def behind_formula(tokens, at, depth, steps):
    # Looked at before going in: so the calls within one another stay few.
    if depth > MOST_DEEP:
        raise NoSheet()
    if tokens[at][0] == "if":
        return behind_choice(tokens, at, depth, steps)
    return behind_join(tokens, at, depth, steps)


def behind_rule(tokens, at, steps):
    at = behind_kind(tokens, at, "name")
    at = behind_kind(tokens, at, "=")
    at = behind_formula(tokens, at, 1, steps)
    steps.append(("end", None))
    return behind_kind(tokens, at, ";")


def rules_of(sheet_tokens):
    # With "end" behind the last token there is always a kind to look at.
    tokens = sheet_tokens + [("end", None)]
    rules = []
    at = 0
    while tokens[at][0] != "end":
        name = tokens[at][1]
        steps = []
        at = behind_rule(tokens, at, steps)
        rules.append((name, steps))
    return rules
