"""ru_work: what each part of a formula stands for."""

import unittest

from helper import MOST_TEXT, NO_RULE, RING, row, string, told, work
from sheettexts.rules import ru_work


class PartCase(unittest.TestCase):
    def stands(self, formula, text, others=""):
        self.assertEqual(work(f"a = {formula};{others}"), told(text), formula)
        self.assertEqual(work(f"{others}a = {formula};"), told(text), formula)


class Form(unittest.TestCase):
    def test_form_2_how_many_bytes_and_these(self):
        self.assertEqual(work('a = "xyz";'), [2, 3, 120, 121, 122])
        self.assertEqual(work('a = "";'), [2, 0])

    def test_whole_numbers_in_a_list(self):
        for text, name in (('a = "x" & size("");', "a"), ('a = "";', "a"), ("a = a;", "a"), ("?", "a"), ("", "")):
            answer = work(text, name)
            self.assertIs(type(answer), list)
            self.assertEqual([type(number) for number in answer], [int] * len(answer))


class Strings(PartCase):
    def test_plain(self):
        for text in ("", "x", "xy", "a", "if", " ", "  x  ", "0", "=&(),;", "a = b;", "'", "/"):
            self.stands(f'"{text}"', text)

    def test_escapes(self):
        cases = (
            ('\\"', '"'), ("\\\\", "\\"), ("\\n", "\n"), ("\\\\n", "\\n"), ("\\n\\n", "\n\n"), ("\\nn", "\nn"),
            ('\\"\\"', '""'), ('\\\\\\"', '\\"'), ('x\\"y\\\\z\\nw', 'x"y\\z\nw'), ("n", "n"), ("\\\\\\\\", "\\\\"),
            ('\\"a\\"', '"a"'), ("end\\n", "end\n"),
        )
        for inside, text in cases:
            self.stands(f'"{inside}"', text)

    def test_every_byte(self):
        for byte in range(32, 256):
            if chr(byte) not in '"\\':
                self.assertEqual(work(f'a="{chr(byte)}";'), [2, 1, byte])
        high = "".join(chr(byte) for byte in range(127, 256))
        self.assertEqual(work(f'a="{high}";'), [2, 129] + list(range(127, 256)))

    def test_two_strings(self):
        self.stands('"" & "x" & "\\"" & ""', 'x"')


class Names(PartCase):
    def test_what_its_rule_stands_for(self):
        self.stands("b", "x", 'b = "x";')
        self.stands("b", "xyx", 'b = c & d & c; c = "x"; d = "y";')

    def test_the_one_that_is_asked_for(self):
        sheet = 'a = "x"; b = "y" & a; c = "z" & b;'
        self.assertEqual(work(sheet, "a"), told("x"))
        self.assertEqual(work(sheet, "b"), told("yx"))
        self.assertEqual(work(sheet, "c"), told("zyx"))

    def test_a_name_is_no_string(self):
        self.stands('b & "b"', "xb", 'b = "x";')

    def test_long_names_and_names_alike(self):
        names = ["a", "aa", "a_", "a1", "a" * 15, "a" * 16, "a" * 15 + "b", "ifa", "sizes"]
        sheet = "".join(f'{name} = "{number}";' for number, name in enumerate(names))
        for number, name in enumerate(names):
            self.assertEqual(work(sheet, name), told(str(number)), name)
            self.assertEqual(work(sheet + f"z = {name};", "z"), told(str(number)), name)
            self.assertEqual(work(sheet + f'z = get("{name}");', "z"), told(str(number)), name)

    def test_every_rule_of_64(self):
        sheet = "".join(f'n{number} = "{number}";' for number in range(64))
        for number in range(64):
            self.assertEqual(work(sheet, f"n{number}"), told(str(number)))


class Joins(PartCase):
    def test_two_three_and_more(self):
        self.stands('"x" & "y"', "xy")
        self.stands('"x" & "y" & "z"', "xyz")
        self.stands('"1" & "2" & "3" & "4" & "5" & "6" & "7"', "1234567")
        self.stands("&".join(f'"{number} "' for number in range(500)), "".join(f"{n} " for n in range(500)))

    def test_with_no_bytes(self):
        self.stands('"" & ""', "")
        self.stands('"x" & ""', "x")
        self.stands('"" & "x"', "x")

    def test_parts_of_every_sort(self):
        formula = 'b & "-" & (b) & get("b") & size(b) & first(b, 1) & rest(b, 1) & (if b = b then b else "n")'
        self.stands(formula, "xy-xyxy2xyxy", 'b = "xy";')

    def test_what_is_put_together_changes_no_part_of_it(self):
        self.stands("b & b & b", "xxx", 'b = "x";')
        self.stands('b & "1" & b & c', "x1xx2x", 'b = "x"; c = b & "2" & b;')
        self.stands('(b & "1") & (b & "2") & b', "x1x2x", 'b = "x";')
        self.stands('first(b & "y", 2) & rest(b & "z", 1) & b', "xyzx", 'b = "x";')


class Parentheses(PartCase):
    def test_what_is_in_them(self):
        self.stands('("x")', "x")
        self.stands('((("x")))', "x")
        self.stands("(b)", "x", 'b = "x";')

    def test_joins_in_them(self):
        self.stands('"1" & ("2" & "3") & "4"', "1234")
        self.stands('"1" & ("2" & ("3" & ("4" & "5") & "6") & "7")', "1234567")
        self.stands('("1" & "2") & ("3" & "4")', "1234")

    def test_a_choice_in_them(self):
        self.stands('"1" & (if "x" = "x" then "2" else "3") & "4"', "124")
        self.stands('"1" & (if "x" = "y" then "2" else "3") & "4"', "134")

    def test_31_pairs(self):
        self.stands("(" * 31 + '"x"' + ")" * 31, "x")
        self.stands('"1"&(' * 31 + '"x"' + ')&"2"' * 31, "1" * 31 + "x" + "2" * 31)


class Get(PartCase):
    def test_the_name_that_the_bytes_tell(self):
        self.stands('get("b")', "x", 'b = "x";')
        self.stands("get(b)", "x", 'b = "c"; c = "x";')
        self.stands("get(get(b))", "x", 'b = "c"; c = "d"; d = "x";')
        self.stands('get("b" & size("12"))', "x", 'b1 = "w"; b2 = "x"; b3 = "y";')
        self.stands('get(first("bcd", 1)) & get(rest("bc", 1))', "xy", 'b = "x"; c = "y";')
        self.stands('get(if b = "b" then "b" else "c")', "y", 'b = "x"; c = "y";')

    def test_a_name_put_together_of_16_bytes(self):
        name = "b" * 16
        self.stands('get(c & c & c & c)', "x", f'c = "bbbb"; {name} = "x";')
        self.assertEqual(work(f'a = get(c & c & c & c & "b"); c = "bbbb"; {name} = "x";'), NO_RULE)

    def test_what_comes_is_no_name_to_be_read_again(self):
        self.stands('get("b")', "c", 'b = "c"; c = "x";')
        self.stands('get("b") & "c"', "cc", 'b = "c"; c = "x";')


class Size(PartCase):
    def test_of_no_bytes(self):
        self.stands('size("")', "0")
        self.stands("size(b)", "0", 'b = "" & "";')
        self.stands('size(first("x", 0))', "0")

    def test_digits_without_a_0_in_front(self):
        for length in (1, 2, 8, 9, 10, 11, 19, 20, 99, 100, 101, 110, 255, 256, 999, 1000, 1001, 4095, 4096):
            self.stands(f'size("{"x" * length}")', str(length))

    def test_of_4096_put_together(self):
        self.stands("size(b & b & b & b)", "4096", f'b = "{"x" * 1024}";')

    def test_bytes_are_counted_as_they_stand(self):
        self.stands('size("\\n\\"\\\\")', "3")
        self.stands('size("\xff\x80\x7f")', "3")

    def test_of_a_size(self):
        self.stands('size(size("1234567890"))', "2")
        self.stands('size("x") & size("xy")', "12")


class Cuts(PartCase):
    def cut(self, text, count, written=None):
        for others, part in (("", string(text)), (f"b = {string(text)};", "b")):
            self.stands(f"first({part}, {written or count})", text[:count], others)
            self.stands(f"rest({part}, {written or count})", text[count:], others)
            self.stands(f"first({part}, {count}) & rest({part}, {count})", text, others)

    def test_0(self):
        for text in ("", "x", "xyz"):
            self.cut(text, 0)

    def test_every_place_and_more(self):
        for count in range(9):
            self.cut("12345", count)

    def test_no_bytes(self):
        for count in (0, 1, 9999):
            self.cut("", count)

    def test_far_more(self):
        for count in (10, 100, 4096, 4097, 9999):
            self.cut("xyz", count)

    def test_a_number_with_0_in_front(self):
        for written, count in (("00", 0), ("0000", 0), ("01", 1), ("0002", 2), ("010", 10), ("0010", 10)):
            self.cut("123456789012345", count, written)

    def test_every_digit_counts(self):
        text = "0123456789" * 400
        for count in (7, 42, 123, 1234, 2345, 3987):
            self.cut(text, count)

    def test_4096_bytes(self):
        text = "y" + "x" * (MOST_TEXT - 2) + "z"
        for count in (0, 1, MOST_TEXT - 1, MOST_TEXT, MOST_TEXT + 1):
            self.assertEqual(work(f'a = first("{text}", {count});'), told(text[:count]))
            self.assertEqual(work(f'a = rest("{text}", {count});'), told(text[count:]))

    def test_bytes_as_they_stand(self):
        self.cut('\n"\\x', 1)
        self.cut('\n"\\x', 3)
        self.cut("\xff\x80", 1)

    def test_in_one_another(self):
        self.stands('first(rest("1234567", 2), 3)', "345")
        self.stands('rest(first("1234567", 5), 2)', "345")
        self.stands('first(first("1234567", 5), 2)', "12")
        self.stands('rest(rest("1234567", 2), 2)', "567")


class Choices(PartCase):
    def choice(self, left, right, same, others=""):
        self.stands(f'if {left} = {right} then "yes" else "no"', "yes" if same else "no", others)
        self.stands(f'if {right} = {left} then "yes" else "no"', "yes" if same else "no", others)
        self.stands(f'"1" & (if {left} = {right} then "yes" else "no") & "2"', "1yes2" if same else "1no2", others)

    def test_the_same_bytes(self):
        for text in ("", "x", "if", "\n", "\xff", "x" * MOST_TEXT):
            self.choice(string(text), string(text), True)

    def test_other_bytes(self):
        pairs = (("", "x"), ("x", "y"), ("x", "xx"), ("x", "x "), ("xy", "yx"), ("0", "00"), ("a", "A"),
                 ("\n", "n"), ("\xff", "\x7f"), ("x" * 4095, "x" * 4096))
        for left, right in pairs:
            self.choice(string(left), string(right), False)

    def test_made_in_other_ways(self):
        self.choice('"x" & "yz"', '"xy" & "z"', True)
        self.choice("b", '"x"', True, 'b = "x";')
        self.choice("b", "c", True, 'b = "x" & ""; c = "" & "x";')
        self.choice("size(b)", '"3"', True, 'b = "xyz";')
        self.choice('("b")', "b", False, 'b = "x";')
        self.choice('get("b")', "b", True, 'b = "x";')
        self.choice('first("xy", 1)', 'rest("yx", 1)', True)

    def test_joins_in_the_branches(self):
        self.stands('if "x" = "x" then "1" & "2" else "3" & "4"', "12")
        self.stands('if "x" = "y" then "1" & "2" else "3" & "4"', "34")

    def test_in_one_another(self):
        formula = ('if {} = "1" then if {} = "1" then "11" else "12" else if {} = "1" then "21" else "22"')
        for first in "12":
            for second in "12":
                written = formula.format(f'"{first}"', f'"{second}"', f'"{second}"')
                self.stands(written, first + second)

    def test_a_choice_within_the_test(self):
        choice = '(if "x" = "{}" then "1" else "2")'
        self.choice(choice.format("x"), '"1"', True)
        self.choice(choice.format("y"), '"2"', True)
        self.choice(choice.format("x"), choice.format("y"), False)

    def test_the_other_branch_is_not_looked_at(self):
        long = string("x" * 4097)
        others = 'b = "x"; ring = ring; many = ' + "&".join(["h"] * 200) + "; h = " + "&".join(["e"] * 100) + '; e = "";'
        for wrong in ("nowhere", "a", "ring", 'get("")', 'get("if")', long, "many", 'b & nowhere', f"size({long})"):
            self.assertNotEqual(work(f"a = {wrong};{others}")[0], 2, wrong[:30])
            self.stands(f'if b = "x" then "y" else {wrong}', "y", others)
            self.stands(f'if b = "z" then {wrong} else "y"', "y", others)
            self.stands(f'"1" & (if b = "x" then "y" else {wrong}) & "2"', "1y2", others)

    def test_the_branch_that_is_looked_at(self):
        self.assertEqual(work('a = if "x" = "x" then nowhere else "y";'), NO_RULE)
        self.assertEqual(work('a = if "x" = "y" then "y" else nowhere;'), NO_RULE)
        self.assertEqual(work('a = if "x" = "x" then a else "y";'), RING)
        self.assertEqual(work('a = if "x" = "y" then "y" else a;'), RING)


class Blanks(unittest.TestCase):
    def test_they_have_no_part_in_it(self):
        tokens = ["a", "=", "if", '"x "', "=", "b", "then", "first", "(", "c", ",", "1", ")",
                  "else", "c", "&", "size", "(", "c", ")", ";", "b", "=", '" x"', ";", "c", "=", '"\\n"', ";"]
        for blank in (" ", "\n", " \n ", "\n\n"):
            self.assertEqual(work(blank + blank.join(tokens) + blank), told("\n1"))


class Corners(unittest.TestCase):
    def test_those_that_answer_a_text(self):
        cases = (
            ('a = if "x" = "x" then "y" else a;', "y"),
            ('a = "\\"";', '"'),
            ('a = first("x", 0);', ""),
            ('a = size("");', "0"),
            ("a = " + "(" * 31 + '"x"' + ")" * 31 + ";", "x"),
            ('a = "x"; b = nowhere;', "x"),
        )
        for sheet, text in cases:
            self.assertEqual(work(sheet), told(text))

    def test_those_that_are_refused(self):
        self.assertEqual(work("a = a;"), RING)
        self.assertEqual(work('a = get("a");'), RING)
        self.assertEqual(work('a = get("");'), NO_RULE)
        self.assertEqual(work("a = " + "(" * 32 + '"x"' + ")" * 32 + ";"), [0, -71])
        self.assertEqual(ru_work(row(f'{"a" * 16} = "x";'), row("a" * 17)), NO_RULE)
        self.assertEqual(ru_work(row(f'{"a" * 17} = "x";'), row("a" * 17)), [0, -71])


if __name__ == "__main__":
    unittest.main()
