"""What the tests share: sheets written as text, and the answers by name."""

from sheettexts.rules import ru_read, ru_work

TOO_LONG = [1, -28, 0]
TOO_MANY_TOKENS = [1, -28, 0]
NOT_READABLE = [1, -71, 0]
TOO_MANY_RULES = [1, -28, 64]

NO_RULE = [0, -2]
RING = [0, -40]
TEXT_TOO_LONG = [0, -28]
TOO_MANY_READS = [0, -62]

MOST_TEXT = 4096
MOST_READS = 20000


def doubled(number):
    return [1, -22, number]


def rules(count):
    return [0, count]


def row(text):
    return list(text.encode("latin-1"))


def read(text):
    return ru_read(row(text))


def work(text, name="a"):
    return ru_work(row(text), row(name))


def told(text):
    return [2, len(text)] + row(text)


def string(text):
    inside = text.replace("\\", "\\\\").replace('"', '\\"').replace("\n", "\\n")
    return f'"{inside}"'


# What reading() reads: one by itself, and one that makes 99 reads more.
READ_RULES = 'one = ""; hundred = ' + " & ".join(["one"] * 99) + ";"


def reading(count):
    """A part of no bytes that makes so many reads, by READ_RULES."""
    names = ["hundred"] * (count // 100) + ["one"] * (count % 100)
    return "(" + " & ".join(names or ['""']) + ")"


def sheet_of_names(names):
    return "".join(f'{name}="x";' for name in names)


def numbered(count):
    return [f"n{number}" for number in range(count)]
