"""ru_work: each refusal, and which one is answered where several are due."""

import itertools
import unittest

from helper import (
    MOST_READS,
    MOST_TEXT,
    NO_RULE,
    READ_RULES,
    RING,
    TEXT_TOO_LONG,
    TOO_MANY_READS,
    numbered,
    read,
    reading,
    row,
    sheet_of_names,
    string,
    told,
    work,
)
from sheettexts.rules import ru_work

BIG_RULE = f'big = "{"x" * MOST_TEXT}";'
WORDS = ("if", "then", "else", "get", "first", "rest", "size")


class RefusalCase(unittest.TestCase):
    def answers(self, answer, sheet, name="a"):
        self.assertEqual(work(sheet, name), answer, sheet[:200])


class OfReading(unittest.TestCase):
    SHEETS = (
        (" " * 16385, -28),
        ('a="x";'.ljust(16385), -28),
        ("?" * 17000, -28),
        ('a="x"; ?', -71),
        ('a="x"; "', -71),
        ('a="x"; ' + "b" * 17 + '="x";', -71),
        ('a=first("x",12345);', -71),
        (";" * 4097, -28),
        ("a=" + '"x"&' * 2048 + '"x";', -28),
        (";" * 5000 + "?", -71),
        ('a="x"', -71),
        ('a="x"; b', -71),
        ('a="x"; b=;', -71),
        ('a="x"; b=' + "(" * 32 + "a" + ")" * 32 + ";", -71),
        (sheet_of_names(["a"] + numbered(64)), -28),
        (sheet_of_names(["a"] * 65), -28),
        (sheet_of_names(["a", "b", "b"]), -22),
        (sheet_of_names(["a", "a"]), -22),
        (sheet_of_names(["b"] + numbered(63)) + "b", -71),
    )

    def test_each_whatever_name_is_asked_for(self):
        for sheet, number in self.SHEETS:
            self.assertEqual(read(sheet)[:2], [1, number], sheet[:50])
            for name in ("a", "b", "nowhere", "", "if", "a" * 17, "\xff", "?"):
                self.assertEqual(work(sheet, name), [0, number], sheet[:50])

    def test_they_come_before_those_of_working_out(self):
        self.assertEqual(work("a = a; a = a;"), [0, -22])
        self.assertEqual(work("a = nowhere; ?"), [0, -71])
        self.assertEqual(work(f"a = {string('x' * 4097)}"), [0, -71])

    def test_the_most_of_everything_is_worked_out(self):
        self.assertEqual(work('a="x";'.ljust(16384)), told("x"))
        self.assertEqual(work(sheet_of_names(["a"] + numbered(63))), told("x"))
        self.assertEqual(work("a=" + '"x"&' * 2046 + '"x";'), told("x" * 2047))


class NoRule(RefusalCase):
    def test_the_name_that_is_asked_for(self):
        for name in ("b", "", "A", "aa", "a ", " a", "a\n", "_", "1", "\xff", "\x00", '"a"', "a" * 17):
            self.answers(NO_RULE, 'a = "x";', name)
            self.answers(NO_RULE, "", name)

    def test_words_that_are_asked_for(self):
        for word in WORDS:
            self.answers(NO_RULE, 'a = if "x" = "x" then get(a) else size(a) & first(a, 1) & rest(a, 1);', word)

    def test_16_and_17_bytes(self):
        for name in ("a" * 16, "z0_" * 5 + "z"):
            sheet = f'{name} = "x"; b = get("{name}");'
            self.answers(told("x"), sheet, name)
            self.answers(told("x"), sheet, "b")
            self.answers(NO_RULE, sheet, name[:-1])
            for byte in "a0_ \x00":
                self.answers(NO_RULE, sheet, name + byte)
                self.answers(NO_RULE, f'{name} = "x"; b = get("{name}" & "{byte if byte > " " else " "}");', "b")

    def test_a_name_in_a_formula(self):
        for formula in ("nowhere", "(nowhere)", '"x" & nowhere', 'nowhere & "x"', "get(nowhere)", "size(nowhere)",
                        "first(nowhere, 0)", "rest(nowhere, 9)", 'if nowhere = "x" then "y" else "z"',
                        'if "x" = nowhere then "y" else "z"', "if nowhere = nowhere then b else b", "b & nowhere & b"):
            self.answers(NO_RULE, f'a = {formula}; b = "x";')
            self.answers(NO_RULE, f'a = d; d = c & c; c = {formula}; b = "x";')

    def test_what_get_is_told(self):
        for text in ("", "nowhere", "A", "b ", " b", "\n", "b\n", "bb", "1", "b;", '"b"', "get(b)", "\xff",
                     "b" * 17, "b" * 18, "b" * MOST_TEXT) + WORDS:
            self.answers(NO_RULE, f'a = get({string(text)}); b = "x";')
            self.answers(NO_RULE, f'a = get(c); c = {string(text)}; b = "x";')
            self.answers(NO_RULE, f'a = size(get({string(text)})); b = "x";')

    def test_a_rule_that_is_not_read(self):
        self.answers(told("x"), 'a = "x"; b = nowhere; c = get(""); d = b & c;')
        self.answers(told("xx"), 'a = e & e; b = nowhere; e = "x";')


class Rings(RefusalCase):
    def test_of_one(self):
        for formula in ("a", "(a)", '"x" & a', 'a & "x"', "get(a)", "size(a)", "first(a, 0)", "rest(a, 0)",
                        'if a = "x" then "y" else "z"', 'if "x" = a then "y" else "z"', "if a = a then a else a"):
            self.answers(RING, f"a = {formula};")

    def test_of_two(self):
        for name in ("a", "b"):
            self.answers(RING, "a = b; b = a;", name)
            self.answers(RING, 'a = "x" & b; b = first(a, 1);', name)

    def test_of_more(self):
        for count in (3, 4, 10, 63, 64):
            names = numbered(count)
            sheet = "".join(f"{name} = {names[number - 1]};" for number, name in enumerate(names))
            for name in names[:3] + names[-1:]:
                self.answers(RING, sheet, name)

    def test_through_get(self):
        self.answers(RING, 'a = get("a");')
        self.answers(RING, 'a = get("b"); b = get("a");')
        self.answers(RING, 'a = get(b); b = "a";')
        self.answers(RING, 'a = get(b & c); b = ""; c = "d"; d = get(first("abc", 1));')
        self.answers(RING, "a = get(b); b = get(c); c = get(a);")
        self.answers(RING, "a = get(a);")

    def test_that_the_name_leads_to(self):
        self.answers(RING, "a = b; b = c; c = b;")
        self.answers(RING, "a = b; b = b;")
        self.answers(RING, "a = b & c; b = \"x\"; c = d; d = e & b; e = c;")

    def test_read_twice_is_no_ring(self):
        self.answers(told("xx"), 'a = b & b; b = "x";')
        self.answers(told("xxxx"), 'a = b & c & b; c = b & b; b = "x";')
        self.answers(told("xx"), 'a = b & get("b"); b = "x";')
        self.answers(told("x"), 'a = if b = b then b else "y"; b = "x";')
        self.answers(told("x"), 'a = if b = c then c else b; b = "x"; c = b;')
        self.answers(told("bx"), 'a = c & get(c); c = "b"; b = "x";')
        self.answers(told("x" * 32), 'a = b & b; b = c & c; c = d & d; d = e & e; e = f & f; f = "x";')

    def test_a_ring_that_is_not_gone_into(self):
        self.answers(told("y"), 'a = if "x" = "x" then "y" else a;')
        self.answers(told("y"), 'a = if "x" = "y" then a else "y";')
        self.answers(told("y"), 'a = b; b = if "x" = "x" then "y" else a;')
        self.answers(told("y"), 'a = "y"; b = c; c = b;')


class TextTooLong(RefusalCase):
    def test_strings(self):
        for length in (4095, 4096):
            self.answers(told("x" * length), f'a = "{"x" * length}";')
        for length in (4097, 4098, 9999, 16000):
            self.answers(TEXT_TOO_LONG, f'a = "{"x" * length}";')

    def test_a_string_is_as_long_as_what_it_stands_for(self):
        self.answers(told("\n" * 4096), 'a = "' + "\\n" * 4096 + '";')
        self.answers(TEXT_TOO_LONG, 'a = "' + "\\n" * 4097 + '";')

    def test_put_together(self):
        for left in (0, 1, 2048, 4095, 4096):
            parts = f'"{"x" * left}" & "{"y" * (4096 - left)}"'
            text = "x" * left + "y" * (4096 - left)
            self.answers(told(text), f"a = {parts};")
            self.answers(told(text), f'a = "" & {parts} & "" & "";')
            self.answers(TEXT_TOO_LONG, f'a = {parts} & "x";')
            self.answers(TEXT_TOO_LONG, f'a = "x" & {parts};')
            self.answers(TEXT_TOO_LONG, f'a = "x" & ({parts});')

    def test_put_together_of_names(self):
        doubled = "".join(f"n{number} = n{number - 1} & n{number - 1};" for number in range(1, 14)) + 'n0 = "x";'
        for number in range(13):
            self.answers(told("x" * 2 ** number), doubled, f"n{number}")
        self.answers(TEXT_TOO_LONG, doubled, "n13")
        self.answers(told("x" * 4096), f"a = big; {BIG_RULE}")
        self.answers(told("x" * 4096), f'a = get("big") & ""; {BIG_RULE}')
        self.answers(TEXT_TOO_LONG, f'a = get("big") & "x"; {BIG_RULE}')

    def test_wherever_it_stands(self):
        for long in ('big & "x"', '"x" & big', "big & big", string("x" * 4097), f"{string('x' * 4097)} & nowhere"):
            for formula in (long, f"({long})", f"first({long}, 1)", f"first({long}, 0)", f"rest({long}, 4096)",
                            f"rest({long}, 9999)", f"size({long})", f"get({long})", f"get(first({long}, 1))",
                            f'if {long} = "" then "x" else "y"', f'if "" = {long} then "x" else "y"',
                            f"if {long} = {long} then b else b", f'if b = "x" then {long} else b',
                            f'if b = "" then b else {long}', f"b & first({long}, 1)"):
                self.answers(TEXT_TOO_LONG, f'a = {formula}; x = "x"; b = "x"; {BIG_RULE}')
            self.answers(TEXT_TOO_LONG, f"a = first(c, 0); c = {long}; {BIG_RULE}")

    def test_as_long_as_it_may_be_wherever_it_stands(self):
        for full in ('big & ""', f'"{"x" * 4096}"', 'first(big, 4095) & "x"', "(big)"):
            for formula, text in ((f"first({full}, 1)", "x"), (f"size({full})", "4096"), (f"rest({full}, 4095)", "x"),
                                  (f"if {full} = big then b else a", "y"), (f"first({full}, 1) & b", "xy")):
                self.answers(told(text), f'a = {formula}; b = "y"; {BIG_RULE}')

    def test_several_long_ones_that_are_cut(self):
        self.answers(told("xxx"), f"a = first(big, 1) & first(big, 1) & first(big, 1); {BIG_RULE}")

    def test_one_that_is_not_looked_at(self):
        long = string("x" * 4097)
        self.answers(told("y"), f'a = if "x" = "x" then "y" else {long};')
        self.answers(told("y"), f'a = "y"; b = {long};')


class TooManyReads(RefusalCase):
    def counted(self, formula, within, others=""):
        """The formula, with as many reads before it as let it be the last one, and with one more."""
        rules = f"{others} {READ_RULES}"
        before = MOST_READS - within - 1
        self.assertEqual(work(f"a = {reading(before)} & {formula}; {rules}")[0], 2, formula)
        self.answers(TOO_MANY_READS, f"a = {reading(before + 1)} & {formula}; {rules}")

    def test_20000_and_20001(self):
        # The name that is asked for is read first: so one less is left.
        self.answers(told(""), f"a = {reading(19998)}; {READ_RULES}")
        self.answers(told(""), f"a = {reading(19999)}; {READ_RULES}")
        self.answers(TOO_MANY_READS, f"a = {reading(20000)}; {READ_RULES}")
        self.answers(TOO_MANY_READS, f"a = {reading(20001)}; {READ_RULES}")

    def test_each_one_in_between_counts(self):
        self.answers(told(""), f"a = b; b = c; c = {reading(19997)}; {READ_RULES}")
        self.answers(TOO_MANY_READS, f"a = b; b = c; c = {reading(19998)}; {READ_RULES}")

    def test_a_name(self):
        self.counted("b", 1, 'b = "x";')
        self.counted("b & b & b", 3, 'b = "x";')
        self.counted("b", 3, 'b = c & c; c = "x";')

    def test_through_get(self):
        self.counted('get("b")', 1, 'b = "x";')
        self.counted("get(b)", 2, 'b = "c"; c = "x";')
        self.counted("get(get(b))", 3, 'b = "c"; c = "d"; d = "x";')

    def test_in_the_other_parts(self):
        self.counted("size(b)", 1, 'b = "x";')
        self.counted("first(b, 0) & rest(b, 9)", 2, 'b = "x";')
        self.counted("(if b = b then b else b & b)", 3, 'b = "x";')
        self.counted('(if b = "" then b else b & b)', 3, 'b = "x";')

    def test_what_reads_nothing(self):
        self.counted('"x" & "b" & size("b") & (if "b" = "b" then "b" else b)', 0, 'b = "x";')

    def test_many_through_get_alone(self):
        gets = "&".join(['get("b")'] * 100)
        sheet = f'b = ""; c = {gets}; a = ' + "&".join(['get("c")'] * 197)
        self.answers(told(""), sheet + "&" + "&".join(["b"] * 102) + ";")
        self.answers(TOO_MANY_READS, sheet + "&" + "&".join(["b"] * 103) + ";")

    def test_doubled_rules(self):
        # The rule n reads 2 ** (n + 1) - 1 names, with itself.
        doubled = "".join(f"n{number} = n{number - 1} & n{number - 1};" for number in range(1, 64)) + 'n0 = "";'
        self.answers(told(""), doubled, "n13")
        for number in (14, 15, 40, 63):
            self.answers(TOO_MANY_READS, doubled, f"n{number}")

    def test_a_call_counts_for_itself(self):
        sheet = row(f"a = {reading(19999)}; {READ_RULES}")
        for turn in range(3):
            self.assertEqual(ru_work(sheet, row("a")), told(""))


class Order(RefusalCase):
    OTHERS = f'x = "x"; ring = ring; {READ_RULES} {BIG_RULE}'
    WRONG = (
        (NO_RULE, ("nowhere", 'get("")', 'get("nowhere")')),
        (RING, ("a", "ring", 'get("a")')),
        (TEXT_TOO_LONG, ('(big & "x")', string("y" * 4097))),
        (TOO_MANY_READS, (reading(20000),)),
    )
    # In each of these the first one is worked out before the second.
    FORMS = (
        "{} & {}",
        '"x" & {} & {}',
        "x & ({} & ({}))",
        "({}) & size({})",
        "first({}, 0) & {}",
        "rest({}, 0) & {}",
        "size({}) & {}",
        "get({}) & {}",
        "get({} & {})",
        'if {} = {} then "x" else "x"',
        "if {} = x then {} else x",
        "if x = {} then x else {}",
        "if x = x then {} & {} else x",
        'if x = "" then x else {} & {}',
    )

    def test_each_two_both_ways_round(self):
        for (answer, firsts), (other, seconds) in itertools.permutations(self.WRONG, 2):
            for first, second in itertools.product(firsts, seconds):
                for form in self.FORMS:
                    self.answers(answer, f"a = {form.format(first, second)}; {self.OTHERS}")

    def test_in_rules_of_their_own(self):
        for (answer, firsts), (other, seconds) in itertools.permutations(self.WRONG, 2):
            self.answers(answer, f"a = b & c; b = {firsts[0]}; c = {seconds[0]}; {self.OTHERS}")
            self.answers(answer, f"a = b & c; c = {seconds[0]}; b = {firsts[0]}; {self.OTHERS}")
            self.answers(answer, f"a = b & {seconds[0]}; b = x & c & x; c = {firsts[0]}; {self.OTHERS}")

    def test_a_part_before_what_is_made_of_it(self):
        for (answer, firsts) in self.WRONG:
            for first in firsts:
                self.answers(answer, f'a = big & (x & {first}); {self.OTHERS}')
                self.answers(answer, f'a = big & {first} & x; {self.OTHERS}')
                self.answers(answer, f'a = get("" & {first}); {self.OTHERS}')
                self.answers(answer, f'a = first({first}, 0); {self.OTHERS}')

    def test_from_the_left_two_at_a_time(self):
        # What two make is too long before the third one is looked at.
        for (answer, seconds) in self.WRONG:
            for second in seconds:
                self.answers(TEXT_TOO_LONG, f"a = big & x & {second}; {self.OTHERS}")
                self.answers(TEXT_TOO_LONG, f"a = x & big & {second}; {self.OTHERS}")
                self.answers(TEXT_TOO_LONG, f"a = size(big & x) & {second}; {self.OTHERS}")

    def test_the_20001st_read_is_of_a_name_without_a_rule(self):
        before = reading(19999)
        for wrong in ("nowhere", 'get("")', 'get("nowhere")', 'get("if")', "size(nowhere)"):
            self.answers(NO_RULE, f"a = {before} & {wrong}; {self.OTHERS}")
            self.answers(TOO_MANY_READS, f"a = {before} & x & {wrong}; {self.OTHERS}")

    def test_the_20001st_read_is_of_a_name_that_is_being_worked_out(self):
        before = reading(19999)
        for wrong in ("a", 'get("a")', "(a)"):
            self.answers(RING, f"a = {before} & {wrong}; {self.OTHERS}")
            self.answers(TOO_MANY_READS, f"a = {before} & x & {wrong}; {self.OTHERS}")
        self.answers(RING, f"a = b; b = {reading(19998)} & a; {self.OTHERS}")
        self.answers(RING, f"a = b; b = {reading(19998)} & b; {self.OTHERS}")

    def test_the_20001st_read_would_lead_into_a_refusal(self):
        before = reading(19999)
        others = f'none = nowhere; long = {string("x" * 4097)}; {self.OTHERS}'.replace(BIG_RULE, "")
        for name in ("none", "ring", "long"):
            self.answers(TOO_MANY_READS, f"a = {before} & {name}; {others}")

    def test_too_long_before_the_20001st_read(self):
        before = reading(19998)
        self.answers(TEXT_TOO_LONG, f"a = {before} & big & \"x\" & x; {self.OTHERS}")
        self.answers(TOO_MANY_READS, f"a = {before} & big & x; {self.OTHERS}")
        self.answers(TOO_MANY_READS, f"a = {before} & big & (x & big); {self.OTHERS}")

    def test_the_name_that_is_asked_for(self):
        self.answers(NO_RULE, f"a = a; {self.OTHERS}", "nowhere")
        self.answers(RING, f"a = nowhere; {self.OTHERS}", "ring")


if __name__ == "__main__":
    unittest.main()
