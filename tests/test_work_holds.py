"""ru_work: what holds of every sheet, how deep it may go, and that nothing is kept."""

import inspect
import sys
import unittest

from helper import (
    NO_RULE,
    READ_RULES,
    RING,
    TEXT_TOO_LONG,
    TOO_MANY_READS,
    numbered,
    read,
    reading,
    row,
    rules,
    string,
    told,
    work,
)
from reference import Maker, Sheet, sheet_text
from sheettexts.rules import ru_read, ru_work

SEEDS = range(500)
MOST_BYTES = 16384


def made_sheets(seeds=SEEDS):
    for seed in seeds:
        made = Maker(seed).rules()
        if len(sheet_text(made)) <= MOST_BYTES:
            yield made


def changed(tree, change):
    """The tree with every tree in it, and then itself, changed."""
    return change((tree[0],) + tuple(changed(inner, change) if isinstance(inner, tuple) else inner
                                     for inner in tree[1:]))


def with_no_get(tree):
    return ("size",) + tree[1:] if tree[0] == "get" else tree


class AgainstTheReference(unittest.TestCase):
    def test_every_name_of_every_sheet(self):
        seen = []
        for made in made_sheets():
            text = sheet_text(made)
            self.assertEqual(read(text), rules(len(made)))
            for name in list(made) + ["nowhere"]:
                answer = Sheet(made).answer(name)
                self.assertEqual(work(text, name), answer, (name, text[:1000]))
                seen.append(answer if answer[0] == 0 else [2])
        for answer in ([2], NO_RULE, RING, TEXT_TOO_LONG, TOO_MANY_READS):
            self.assertGreater(seen.count(answer), 5, answer)


class ItStandsForThat(unittest.TestCase):
    def test_a_name_for_its_text(self):
        replaced = 0
        for made in made_sheets():
            text = sheet_text(made)
            answers = {name: work(text, name) for name in made}
            texts = {name: "".join(map(chr, answer[2:])) for name, answer in answers.items() if answer[0] == 2}
            short = {name: text for name, text in texts.items() if len(text) < 500}

            def for_its_text(tree):
                return ("string", short[tree[1]]) if tree[0] == "name" and tree[1] in short else tree

            for name in texts:
                other = dict(made)
                other[name] = changed(made[name], for_its_text)
                if other != made and len(sheet_text(other)) <= MOST_BYTES:
                    self.assertEqual(work(sheet_text(other), name), answers[name], text[:1000])
                    replaced += 1
        self.assertGreater(replaced, 200)


class WhatIsNotRead(unittest.TestCase):
    OTHERS = (
        ("string", "other"), ("name", "nowhere"), ("get", ("string", "")), ("string", "x" * 4097),
        ("both", ("name", "a"), ("name", "b")), ("get", ("string", "a")),
    )

    def test_any_other_rule_in_its_place(self):
        replaced = 0
        for made in made_sheets(range(200)):
            for name in made:
                sheet = Sheet(made)
                answer = sheet.answer(name)
                unread = [other for other in made if other not in sheet.seen]
                for formula in self.OTHERS if unread and sheet.reads < 1000 else ():
                    other = {one: formula if one in unread else tree for one, tree in made.items()}
                    if len(sheet_text(other)) <= MOST_BYTES:
                        self.assertEqual(work(sheet_text(other), name), answer, sheet_text(other)[:1000])
                        replaced += 1
        self.assertGreater(replaced, 1000)

    def test_by_hand(self):
        for rule in ('b = "x";', "b = b;", "b = a;", "b = nowhere;", 'b = get("");', f"b = {string('x' * 4097)};", "",
                     f"b = {reading(20000)}; {READ_RULES}"):
            self.assertEqual(work(f'a = c & "y"; {rule} c = if "x" = "x" then "z" else b;'), told("zy"))


class NamesChanged(unittest.TestCase):
    NAMES = ("a", "b", "c", "d", "e", "f", "g", "h", "nowhere")
    CHANGES = (
        NAMES[1:] + NAMES[:1],
        NAMES[::-1],
        ("z", "y_", "x1", "ab", "aa", "a_", "a1", "a" * 16, "a" * 15),
        ("if_", "then1", "elsea", "gets", "firsts", "rests", "sizes", "i", "ge"),
    )

    def test_throughout(self):
        for made in made_sheets(range(150)):
            # With no get in it no string tells a name.
            plain = {name: changed(tree, with_no_get) for name, tree in made.items()}
            text = sheet_text(plain)
            for names in self.CHANGES:
                other = dict(zip(self.NAMES, names))

                def renamed(tree):
                    return ("name", other[tree[1]]) if tree[0] == "name" else tree

                again = sheet_text({other[name]: changed(tree, renamed) for name, tree in plain.items()})
                if len(again) <= MOST_BYTES:
                    for name in plain:
                        self.assertEqual(work(again, other[name]), work(text, name), text[:1000])


class Deep(unittest.TestCase):
    """Each rule reads the next one from within what lies deep."""

    PARENTHESES = (("(", ")", 2), ("first(", ",9)", 5), ("rest(", ",0)", 5), ('""&(', ")", 4))
    CHOICES = (
        ('if"x"="x"then ', ' else"x"', 8),
        ('if"x"="y"then"x"else ', "", 8),
        ("if(", ')="x"then"x"else"y"', 9),
        ('if"x"=(', ')then"x"else"y"', 9),
    )

    def chain(self, opening, closing, depths, last='"x"'):
        names = numbered(len(depths))
        texts = names[1:] + [last]
        return "".join(f"{name}={opening * (depth - 1)}{text}{closing * (depth - 1)};"
                       for name, text, depth in zip(names, texts, depths))

    def depths(self, count, each):
        """As many of so many rules as deep as may be, within the 4,096 tokens."""
        left = 4096 - 4 * count
        depths = []
        for turn in range(count):
            more = min(31, left // each)
            depths.append(1 + more)
            left -= more * each
        return depths

    def check(self, opening, closing, depths):
        for turned in (depths, depths[::-1]):
            for last, answer in (('"x"', told("x")), ("n0", RING), ("nowhere", NO_RULE)):
                sheet = self.chain(opening, closing, turned, last)
                self.assertEqual(read(sheet), rules(len(depths)))
                self.assertEqual(work(sheet, "n0"), answer, opening)

    def test_64_rules_within_parentheses(self):
        # 31 pairs are 62 tokens: 64 such rules are more than 4,096, 61 of 64 are not.
        self.assertEqual(self.depths(64, 2).count(32), 61)
        for opening, closing, each in self.PARENTHESES:
            self.check(opening, closing, self.depths(64, each))
            self.check(opening, closing, [1 + (4096 // 64 - 4) // each] * 64)

    def test_64_rules_with_choices(self):
        for opening, closing, each in self.CHOICES:
            self.check(opening, closing, self.depths(64, each))
            self.check(opening, closing, [1 + (4096 // 64 - 4) // each] * 64)

    def test_through_get(self):
        names = numbered(64)
        rule = '{}=' + "(" * 28 + 'get("{}")' + ")" * 28 + ";"
        sheet = "".join(rule.format(*two) for two in zip(names, names[1:])) + 'n63="x";'
        self.assertEqual(work(sheet, "n0"), told("x"))

    def test_few_calls_lie_within_one_another(self):
        before = sys.getrecursionlimit()
        for opening, closing, each in self.PARENTHESES + self.CHOICES:
            sheet = row(self.chain(opening, closing, self.depths(64, each)))
            sys.setrecursionlimit(len(inspect.stack()) + 200)
            try:
                answer = ru_work(sheet, row("n0"))
            finally:
                sys.setrecursionlimit(before)
            self.assertEqual(answer, told("x"))


class NothingIsKept(unittest.TestCase):
    CALLS = (
        ("", ""),
        ("", "a"),
        ('a = "";', "a"),
        ('a = "x" & b & b; b = "y" & "z";', "a"),
        ('a = "x" & b & b; b = "y" & "z";', "b"),
        ('a = "x" & b & b; b = "y" & "z";', "c"),
        ('a = if get("b") = size(b) then first("x\\n", 1) else rest(("y"), 0) & b; b = "1";', "a"),
        ("a = a;", "a"),
        ("a = b; b = c; c = b;", "a"),
        (f'a = "{"x" * 4096}" & b; b = "y";', "a"),
        (f'a = "{"x" * 4096}" & b; b = "";', "a"),
        (f"a = {reading(19999)}; {READ_RULES}", "a"),
        (f"a = {reading(20000)}; {READ_RULES}", "a"),
        ('a = "x"; a = "y";', "a"),
        ('a = "x', "a"),
        (" " * 16385, "a" * 17),
    )

    def test_what_is_handed_in_stays_as_it_was(self):
        for text, asked in self.CALLS:
            t = row(text)
            name = row(asked)
            ru_work(t, name)
            self.assertEqual(t, row(text))
            self.assertEqual(name, row(asked))

    def test_the_same_call_answers_the_same(self):
        before = [work(text, name) for text, name in self.CALLS]
        for (text, asked), answer in reversed(list(zip(self.CALLS, before))):
            t = row(text)
            name = row(asked)
            self.assertEqual(ru_work(t, name), answer)
            ru_read(t)
            self.assertEqual(ru_work(t, name), answer)

    def test_each_answer_is_a_list_of_its_own(self):
        for text, name in self.CALLS:
            answer = work(text, name)
            wanted = list(answer)
            answer.append(7)
            self.assertEqual(work(text, name), wanted)


if __name__ == "__main__":
    unittest.main()
