"""ru_read: what it answers, the limits, and which refusal comes first."""

import unittest

from helper import (
    NOT_READABLE,
    TOO_LONG,
    TOO_MANY_RULES,
    TOO_MANY_TOKENS,
    doubled,
    numbered,
    read,
    row,
    rules,
    sheet_of_names,
)
from sheettexts.rules import ru_read

# Each part that is joined on is two tokens more: so it takes two sheets to
# come to an even and to an odd number of them.
EVEN_SHEET = 'a="x";'
ODD_SHEET = 'a=if"x"="x"then"x"else"x";'
EVEN_TOKENS = 4
ODD_TOKENS = 11


def joined(sheet, more):
    return sheet[:-1] + '&"x"' * more + ";"


class Counts(unittest.TestCase):
    def test_no_rule(self):
        for text in ("", " ", "\n", " \n \n\n  "):
            self.assertEqual(read(text), rules(0), text)

    def test_one_rule(self):
        self.assertEqual(read('a = "x";'), rules(1))

    def test_every_count_up_to_64(self):
        for count in range(65):
            self.assertEqual(read(sheet_of_names(numbered(count))), rules(count))

    def test_a_name_without_a_rule_may_stand_in_a_formula(self):
        self.assertEqual(read("a = nowhere;"), rules(1))

    def test_rules_in_a_ring_are_read(self):
        self.assertEqual(read("a = a; b = c; c = b;"), rules(3))

    def test_whole_numbers_in_a_list(self):
        for text in ("", EVEN_SHEET, "?", 'a="x";' * 2):
            answer = read(text)
            self.assertIs(type(answer), list)
            self.assertEqual([type(number) for number in answer], [int] * len(answer))


class Length(unittest.TestCase):
    def test_16384_bytes(self):
        self.assertEqual(read(" " * 16384), rules(0))
        self.assertEqual(read(EVEN_SHEET.rjust(16384)), rules(1))
        self.assertEqual(read('a="' + "x" * 16379 + '";'), rules(1))

    def test_16385_bytes(self):
        self.assertEqual(read(" " * 16385), TOO_LONG)
        self.assertEqual(read(EVEN_SHEET.rjust(16385)), TOO_LONG)

    def test_17000_bytes(self):
        self.assertEqual(read(" " * 17000), TOO_LONG)

    def test_a_longer_one_is_not_looked_at(self):
        self.assertEqual(read("?" * 16384), NOT_READABLE)
        self.assertEqual(read("?" * 16385), TOO_LONG)
        self.assertEqual(read(('a="x";' * 2).ljust(16385)), TOO_LONG)


class TokenCount(unittest.TestCase):
    def test_sheets_of_4096_and_4097_tokens(self):
        more = (4096 - EVEN_TOKENS) // 2
        self.assertEqual(read(joined(EVEN_SHEET, more)), rules(1))
        more = (4097 - ODD_TOKENS) // 2
        self.assertEqual(read(joined(ODD_SHEET, more - 1)), rules(1))
        self.assertEqual(read(joined(ODD_SHEET, more)), TOO_MANY_TOKENS)

    def test_each_kind_of_token_counts_as_one(self):
        for token in ("ab", "1234", '"a; b"', "=", "if", "first"):
            self.assertEqual(read(";" * 4095 + token), NOT_READABLE, token)
            self.assertEqual(read(";" * 4096 + token), TOO_MANY_TOKENS, token)

    def test_too_many_tokens_come_before_no_sheet(self):
        self.assertEqual(read(";" * 4096), NOT_READABLE)
        self.assertEqual(read(";" * 4097), TOO_MANY_TOKENS)

    def test_too_many_tokens_come_before_too_deep(self):
        self.assertEqual(read("a=" + "(" * 4094), NOT_READABLE)
        self.assertEqual(read("a=" + "(" * 4095), TOO_MANY_TOKENS)

    def test_too_many_tokens_come_before_too_many_rules(self):
        self.assertEqual(read(sheet_of_names(numbered(1024))), TOO_MANY_RULES)
        self.assertEqual(read(sheet_of_names(numbered(1025))), TOO_MANY_TOKENS)

    def test_what_cannot_be_parted_comes_before_too_many_tokens(self):
        self.assertEqual(read(";" * 5000 + "?"), NOT_READABLE)
        self.assertEqual(read("?" + ";" * 5000), NOT_READABLE)
        self.assertEqual(read(";" * 5000 + '"'), NOT_READABLE)
        self.assertEqual(read(";" * 5000 + "12345"), NOT_READABLE)


class RuleCount(unittest.TestCase):
    def test_64_and_65_rules(self):
        self.assertEqual(read(sheet_of_names(numbered(64))), rules(64))
        self.assertEqual(read(sheet_of_names(numbered(65))), TOO_MANY_RULES)
        self.assertEqual(read(sheet_of_names(numbered(200))), TOO_MANY_RULES)

    def test_too_many_rules_come_before_a_doubled_name(self):
        self.assertEqual(read(EVEN_SHEET * 64), doubled(1))
        self.assertEqual(read(EVEN_SHEET * 65), TOO_MANY_RULES)
        self.assertEqual(read(sheet_of_names(numbered(64) + ["n3"])), TOO_MANY_RULES)

    def test_no_sheet_comes_before_too_many_rules(self):
        self.assertEqual(read(sheet_of_names(numbered(65)) + "b"), NOT_READABLE)
        self.assertEqual(read(sheet_of_names(numbered(65)) + ";"), NOT_READABLE)

    def test_too_deep_comes_before_too_many_rules(self):
        deep = "b=" + "(" * 32 + '"x"' + ")" * 32 + ";"
        self.assertEqual(read(sheet_of_names(numbered(65)) + deep), NOT_READABLE)


class DoubledNames(unittest.TestCase):
    def test_the_second_at_every_place(self):
        for second in range(1, 64):
            for first in {0, second // 2, second - 1}:
                names = numbered(64)
                names[second] = names[first]
                self.assertEqual(read(sheet_of_names(names)), doubled(second))

    def test_the_first_such_of_more(self):
        cases = (("abab", 2), ("abba", 2), ("aaa", 1), ("abcbac", 3), ("abccc", 3), ("abcddba", 4))
        for names, second in cases:
            self.assertEqual(read(sheet_of_names(names)), doubled(second), names)

    def test_only_the_whole_name_counts(self):
        names = ["a", "aa", "a_", "a1", "a_1", "a1_", "b", "ab", "ba"]
        self.assertEqual(read(sheet_of_names(names)), rules(len(names)))
        alike = ["a23456789012345", "a234567890123456", "a234567890123457"]
        self.assertEqual(read(sheet_of_names(alike)), rules(3))
        self.assertEqual(read(sheet_of_names(alike + alike[2:])), doubled(3))

    def test_a_name_in_a_formula_is_no_rule(self):
        self.assertEqual(read('a = b & b; b = a & "b" & get("a");'), rules(2))

    def test_blanks_do_not_part_one_name_from_another(self):
        self.assertEqual(read('a="x";\n  a\n=  "y" ;'), doubled(1))

    def test_no_sheet_comes_before_a_doubled_name(self):
        for end in ("b", "b=", 'b="x"', "b=;", ";", 'b=("x";'):
            self.assertEqual(read(EVEN_SHEET * 2 + end), NOT_READABLE, end)
        self.assertEqual(read(EVEN_SHEET * 2), doubled(1))

    def test_what_cannot_be_parted_comes_before_a_doubled_name(self):
        self.assertEqual(read(EVEN_SHEET * 2 + "?"), NOT_READABLE)


class NothingIsKept(unittest.TestCase):
    TEXTS = (
        "",
        EVEN_SHEET,
        EVEN_SHEET * 2,
        EVEN_SHEET * 65,
        "a=",
        "?",
        '"\\',
        ";" * 4097,
        " " * 16385,
        'a = if get("b") = size(c) then first("x\\n", 1) else rest(("y"), 0);',
    )

    def test_what_is_handed_in_stays_as_it_was(self):
        for text in self.TEXTS:
            t = row(text)
            ru_read(t)
            self.assertEqual(t, row(text))

    def test_the_same_call_answers_the_same(self):
        before = [read(text) for text in self.TEXTS]
        for text, answer in reversed(list(zip(self.TEXTS, before))):
            t = row(text)
            self.assertEqual(ru_read(t), answer)
            self.assertEqual(ru_read(t), answer)

    def test_each_answer_is_a_list_of_its_own(self):
        for text in self.TEXTS:
            answer = read(text)
            wanted = list(answer)
            answer.append(7)
            self.assertEqual(read(text), wanted)


if __name__ == "__main__":
    unittest.main()
