"""What the tests share: sheets written as text, and the answers by name."""

from sheettexts.rules import ru_read

TOO_LONG = [1, -28, 0]
TOO_MANY_TOKENS = [1, -28, 0]
NOT_READABLE = [1, -71, 0]
TOO_MANY_RULES = [1, -28, 64]


def doubled(number):
    return [1, -22, number]


def rules(count):
    return [0, count]


def row(text):
    return list(text.encode("latin-1"))


def read(text):
    return ru_read(row(text))


def sheet_of_names(names):
    return "".join(f'{name}="x";' for name in names)


def numbered(count):
    return [f"n{number}" for number in range(count)]
