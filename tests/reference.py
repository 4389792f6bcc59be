"""Another way to work a name out, to check the program by.

A formula is a tree here, made by the tests and never read from bytes; it is
worked out by calls within one another, and written down as a sheet's text.
"""

import random

from helper import MOST_READS, MOST_TEXT, NO_RULE, RING, TEXT_TOO_LONG, TOO_MANY_READS, string, told

NAMES = ("a", "b", "c", "d", "e", "f", "g", "h")
# What get may come upon too: no names, or names without a rule.
NO_NAMES = ("", "if", "nowhere", "A", "aa", "a" * 17)


class Refused(Exception):
    pass


class Sheet:
    def __init__(self, rules):
        self.rules = rules
        self.reads = 0
        self.seen = {}

    def answer(self, name):
        self.reads = 0
        self.seen = {}
        try:
            return told(self.named(name, ()))
        except Refused as refused:
            return refused.args[0]

    def named(self, name, within):
        self.reads += 1
        self.seen[name] = True
        if name not in self.rules:
            raise Refused(NO_RULE)
        if name in within:
            raise Refused(RING)
        if self.reads > MOST_READS:
            raise Refused(TOO_MANY_READS)
        return self.text(self.rules[name], within + (name,))

    def text(self, tree, within):
        text = getattr(self, tree[0])(within, *tree[1:])
        if len(text) > MOST_TEXT:
            raise Refused(TEXT_TOO_LONG)
        return text

    def string(self, within, text):
        return text

    def name(self, within, name):
        return self.named(name, within)

    def inside(self, within, tree):
        return self.text(tree, within)

    def both(self, within, left, right):
        return self.text(left, within) + self.text(right, within)

    def get(self, within, tree):
        return self.named(self.text(tree, within), within)

    def size(self, within, tree):
        return str(len(self.text(tree, within)))

    def first(self, within, tree, count):
        return self.text(tree, within)[:count]

    def rest(self, within, tree, count):
        return self.text(tree, within)[count:]

    def choice(self, within, left, right, same, other):
        chosen = same if self.text(left, within) == self.text(right, within) else other
        return self.text(chosen, within)


def part(tree):
    """As it's written where a part stands."""
    return f"({written(tree)})" if tree[0] in ("both", "choice") else written(tree)


def join(tree):
    """As it's written where a join stands, and a part may follow behind &."""
    return f"({written(tree)})" if tree[0] == "choice" else written(tree)


def written(tree):
    kind = tree[0]
    if kind == "string":
        return string(tree[1])
    if kind == "name":
        return tree[1]
    if kind == "inside":
        return f"({written(tree[1])})"
    if kind == "both":
        return f"{join(tree[1])} & {part(tree[2])}"
    if kind == "choice":
        left, right, same, other = tree[1:]
        return f"if {join(left)} = {join(right)} then {written(same)} else {written(other)}"
    more = f", {tree[2]}" if kind in ("first", "rest") else ""
    return f"{kind}({written(tree[1])}{more})"


def sheet_text(rules):
    return "".join(f"{name} = {written(tree)};\n" for name, tree in rules.items())


class Maker:
    """Makes trees by chance, the same ones for the same seed."""

    def __init__(self, seed):
        self.chance = random.Random(seed)
        self.texts = self.chance.choice((("x", "y", "1", "2"), ("",), ("\n", '"', "\\", "\xff", "x y")))

    def one_of(self, *weighed):
        return self.chance.choices([one for one, weight in weighed], [weight for one, weight in weighed])[0]

    def short_text(self, names):
        sort = self.one_of((names or self.texts, 20), (self.texts, 20), (NO_NAMES, 1))
        return self.chance.choice(sort)

    def leaf(self, names):
        sort = self.one_of(("name", 40 if names else 0), ("string", 20), ("long", 2), ("nowhere", 0.2))
        if sort == "name":
            return ("name", self.chance.choice(names))
        if sort == "string":
            return ("string", self.short_text(names))
        if sort == "long":
            return ("string", "z" * self.chance.choice((1000, 2000, 2048, 4095, 4096, 4097)))
        return ("name", "nowhere")

    def get(self, names, size):
        if names and self.chance.random() < 0.9:
            return ("get", ("string", self.chance.choice(names)))
        return ("get", self.tree(names, size // 3))

    def tree(self, names, size):
        if size <= 1:
            return self.leaf(names)
        kind = self.one_of(("both", 8), ("choice", 4), ("get", 2 if names else 0.1), ("size", 1), ("first", 2),
                           ("rest", 2), ("inside", 1))
        if kind == "both":
            return (kind, self.tree(names, size // 2), self.tree(names, size - size // 2 - 1))
        if kind == "choice":
            return (kind,) + tuple(self.tree(names, size // 4) for turn in range(4))
        if kind == "get":
            return self.get(names, size)
        if kind in ("first", "rest"):
            return (kind, self.tree(names, size - 1), self.chance.choice((0, 1, 2, 3, 10, 2048, 4096, 9999)))
        return (kind, self.tree(names, size - 1))

    def wide_tree(self, names):
        """Reads much, of which little comes."""
        tree = ("string", "")
        for turn in range(self.chance.randint(3, 6) if names else 0):
            leaf = ("name", self.one_of((names[0], 9), (names[-1], 1)))
            tree = ("both", tree, self.chance.choice((leaf, ("first", leaf, 0), ("get", ("string", leaf[1])))))
        return tree

    def rules(self):
        """Most rules read names of later ones alone: so not all go in a ring."""
        wide = self.chance.random() < 0.1
        names = list(NAMES if wide else NAMES[:self.chance.randint(1, len(NAMES))])
        rules = {}
        for number, name in enumerate(names):
            readable = names if self.chance.random() < 0.04 else names[number + 1:]
            if wide and self.chance.random() < 0.95:
                rules[name] = self.wide_tree(readable)
            else:
                rules[name] = self.tree(readable, self.chance.choice((1, 2, 3, 5, 8, 12)))
        if self.chance.random() < 0.5:
            return {name: rules[name] for name in self.chance.sample(names, len(names))}
        return rules
