"""ru_read: what is a sheet and what is none, and how deep things lie."""

import itertools
import re
import unittest

from helper import NOT_READABLE, doubled, read, rules

# A token as it is written, and the one letter that the reference knows it by.
LETTERS = {
    '"x"': "s", "7": "#", "if": "i", "then": "t", "else": "e", "get": "g", "size": "z",
    "first": "f", "rest": "r", "=": "=", "&": "&", "(": "(", ")": ")", ",": ",", ";": ";",
}
TOKENS = ("b",) + tuple(LETTERS)

EVERY_PRODUCTION = (
    'a = if "x" & c = ( "x" ) then get ( c ) & "x" else size ( "x" & d ) ; '
    'e = first ( if d = c then d else c , 7 ) & rest ( ( c & d ) , 7 ) ; '
    'h = if get ( "x" ) = c then if c = d then c else d else ( if c = d then "x" else "x" ) ;'
).split()

JOIN = "[ns](?:&[ns])*"
FORMULA = f"(?:{JOIN}|q)"
STEPS = (
    (re.compile(rf"[gz]?\({FORMULA}\)"), "s"),
    (re.compile(rf"[fr]\({FORMULA},#\)"), "s"),
    (re.compile(rf"i{JOIN}={JOIN}t{FORMULA}e{FORMULA}(?=[;),e])"), "q"),
)
SHEET = re.compile(f"(?:n={FORMULA};)*")


def is_sheet(tokens):
    # A part that is read through becomes a string, an if becomes q, until
    # nothing changes: another way than the program's, to check it by.
    text = "".join(LETTERS.get(token, "n") for token in tokens)
    before = None
    while before != text:
        before = text
        for pattern, letter in STEPS:
            text = pattern.sub(letter, text)
    return SHEET.fullmatch(text) is not None


def changed_sheets(tokens):
    for at in range(len(tokens)):
        yield tokens[:at]
        yield tokens[at + 1:]
        yield tokens[:at] + tokens[at + 1:]
        yield tokens[:at] + [tokens[at]] + tokens[at:]
        yield tokens[:at] + tokens[at:at + 2][::-1] + tokens[at + 2:]
        for token in TOKENS:
            yield tokens[:at] + [token] + tokens[at:]
            yield tokens[:at] + [token] + tokens[at + 1:]


def nested(opening, closing, times):
    return "a=" + opening * times + '"x"' + closing * times + ";"


class Productions(unittest.TestCase):
    def test_each(self):
        formulas = (
            '"x"', "b", '("x")', "get(b)", "size(b)", "first(b,0)", "rest(b,0)",
            'b&"x"', "b&c&d&e", "(b)&get(b)&size(b)&first(b,1)&rest(b,2)&b",
            "if b=c then d else e", "if b&c=d&e then b&c else d&e",
            "if(b)=(c)then(d)else(e)", "(if b=c then d else e)",
            "(if b=c then d else e)&b", "b&(if b=c then d else e)",
            "get(if b=c then d else e)", "size(if b=c then d else e)",
            "first(if b=c then d else e,1)", "rest(if b=c then d else e,1)",
            "first(b&c,1)", "rest(first(b,1),2)", "((((b))))", "get(get(get(b)))",
            "if b=c then if b=c then b else c else if b=c then b else c",
            "if(if b=c then d else e)=(if b=c then d else e)then b else c",
            "if get(b)=size(c)then first(d,1)else rest(e,2)",
        )
        for formula in formulas:
            self.assertEqual(read(f"a={formula};"), rules(1), formula)
            self.assertEqual(read(f"a={formula};f={formula};"), rules(2), formula)
        self.assertEqual(read(" ".join(EVERY_PRODUCTION)), rules(3))

    def test_a_long_join_is_not_deep(self):
        self.assertEqual(read("a=b" + "&b" * 2000 + ";"), rules(1))


class NoSheet(unittest.TestCase):
    def none(self, *texts):
        for text in texts:
            self.assertEqual(read(text), NOT_READABLE, text)

    def test_the_name(self):
        self.none('="x";', 'a b="x";', 'a a="x";', '"a"="x";', '7="x";', '(a)="x";', 'a&b="x";', '"x";')

    def test_the_equals(self):
        self.none('a"x";', 'a=="x";', '=a"x";', 'a"x"=;', 'a&"x";', 'a,"x";', "a;", "a b;")

    def test_the_formula(self):
        self.none("a=;", 'a="x""x";', "a=b c;", "a=7;", "a=b=c;", "a=,;", "a=();", "a=b 7;", "a=(b)(c);")

    def test_the_semicolon(self):
        self.none("a=b", "a=b;;", ";", ";a=b;", "a=b c=d;", "a=b,c=d;", "a=b;c=d", "a;=b", "a=;b")

    def test_the_and(self):
        self.none("a=&b;", "a=b&;", "a=b&&c;", "a=&;", "a=b&=c;", "a=(b&);", "a=b&7;", "a=b&;c=d;")

    def test_the_parentheses(self):
        self.none("a=(b;", "a=b);", "a=((b);", "a=(b));", "a=)b(;", "a=(b;)", "a=(b", "a=(", "(a=b;)")

    def test_get_and_size(self):
        for word in ("get", "size"):
            self.none(f"a={word};", f"a={word} b;", f"a={word}();", f"a={word}(b;", f"a={word} b);")
            self.none(f"a={word}(b,7);", f"a={word}((b);", f"a={word}(7);", f"a={word}(b c);")
            self.none(f"a={word} {word}(b);", f"a=({word} b);", f"a={word}", f"a={word}(", f"a=b {word}(c);")

    def test_first_and_rest(self):
        for word in ("first", "rest"):
            self.none(f"a={word};", f"a={word}(b);", f"a={word}(b,);", f"a={word}(b 7);", f"a={word}(,7);")
            self.none(f"a={word} b,7);", f"a={word}(b,7;", f"a={word} b,7;", f"a={word}(7,b);")
            self.none(f"a={word}(b,,7);", f"a={word}(b,7,);", f"a={word}(b,7 7);", f"a={word}(b,c);")
            self.none(f'a={word}(b,"7");', f"a={word}(b,(7));", f"a={word}(b,7&c);", f"a={word}(7);")
            self.none(f"a={word}((b,7));", f"a={word}()", f"a={word}(b,7,7);", f"a={word}(b,7", f"a={word}(b")

    def test_a_comma_by_itself(self):
        self.none("a=b,7;", "a=(b,7);", "a=(b,c);", "a=b,c;")

    def test_the_if(self):
        self.none(
            "a=if b=c then d;", "a=if b=c then d else;", "a=if b=c d else e;", "a=if b=c then else e;",
            "a=if b then d else e;", "a=if =c then d else e;", "a=if b= then d else e;",
            "a=if b==c then d else e;", "a=if b=c=d then d else e;", "a=if b=c else d then e;",
            "a=if b=c then then d else e;", "a=if b=c then d else else e;", "a=if if b=c then d else e;",
            "a=b=c then d else e;", "a=then d else e;", "a=else e;", "a=if b=c then d else e else f;",
            "a=if(b=c)then d else e;", "a=(b=c);", "a=if b=c,d else e;", "a=if b=c then d;else e;",
            "a=if b=c", "a=if", "a=if b=c then", "a=if b=c then d else", "a=if b=c then d else e",
        )

    def test_an_if_as_a_part(self):
        choice = "if b=c then d else e"
        self.none(
            f"a=b&{choice};", f"a=b&c&{choice};", f"a=if {choice}=f then g else h;",
            f"a=if f={choice} then g else h;", f"a=if f&{choice}=f then g else h;",
            f"a=get {choice};", f"a=(b&{choice});", f"a=b {choice};",
        )

    def test_it_may_break_off_behind_a_rule_alone(self):
        whole = len(EVERY_PRODUCTION)
        ends = [at + 1 for at in range(whole) if EVERY_PRODUCTION[at] == ";"]
        for length in range(1, whole + 1):
            answer = rules(ends.index(length) + 1) if length in ends else NOT_READABLE
            self.assertEqual(read(" ".join(EVERY_PRODUCTION[:length])), answer)


class AgainstTheReference(unittest.TestCase):
    def check(self, tokens):
        answer = read(" ".join(tokens))
        self.assertEqual(answer != NOT_READABLE, is_sheet(tokens), tokens)

    def test_every_change_by_one_token(self):
        for tokens in changed_sheets(EVERY_PRODUCTION):
            self.check(tokens)

    def test_every_short_formula(self):
        for length in range(4):
            for tokens in itertools.product(TOKENS, repeat=length):
                self.check(("a", "=") + tokens + (";",))

    def test_every_short_sheet(self):
        for length in range(5):
            for tokens in itertools.product(("b", "=", '"x"', ";", "&"), repeat=length):
                self.check(tokens)

    def test_the_reference_tells_both(self):
        self.assertTrue(is_sheet(EVERY_PRODUCTION))
        self.assertFalse(is_sheet(EVERY_PRODUCTION[1:]))


class Depth(unittest.TestCase):
    NESTS = (
        ("(", ")"),
        ("get(", ")"),
        ("size(", ")"),
        ("first(", ",1)"),
        ("rest(", ",1)"),
        ('if"x"="x"then ', ' else"x"'),
        ('if"x"="x"then"x"else ', ""),
        ("if(", ')="x"then"x"else"x"'),
        ('if"x"=get(', ')then"x"else"x"'),
        ('"x"&"x"&(', ')&"x"'),
    )

    def test_32_and_33_deep(self):
        # The rule's formula is 1 deep: so 31 of them make 32.
        for opening, closing in self.NESTS:
            self.assertEqual(read(nested(opening, closing, 31)), rules(1), opening)
            self.assertEqual(read(nested(opening, closing, 32)), NOT_READABLE, opening)

    def test_all_ways_in_turn(self):
        ways = self.NESTS[:7] * 5
        for times, answer in ((31, rules(1)), (32, NOT_READABLE)):
            text = '"x"'
            for opening, closing in ways[:times]:
                text = opening + text + closing
            self.assertEqual(read(f"a={text};"), answer)

    def test_then_and_else_within_parentheses_are_two_deeper(self):
        for opening, closing in (('(if"x"="x"then ', ' else"x")'), ('(if"x"="x"then"x"else ', ")")):
            self.assertEqual(read(nested(opening, closing, 15)), rules(1))
            self.assertEqual(read(nested(opening, closing, 16)), NOT_READABLE)
            self.assertEqual(read(nested("(" + opening, closing + ")", 10)), rules(1))
            self.assertEqual(read(nested("(" + opening, closing + ")", 11)), NOT_READABLE)

    def test_the_last_part_that_lies_deep(self):
        for part, deeper in (('"x"', 0), ("b", 0), ("b&c", 0), ("(b)", 1), ("get(b)", 1), ("size(b)", 1),
                             ("first(b,1)", 1), ("rest(b,1)", 1), ("if b=c then d else e", 1),
                             ("if(b)=c then d else e", 1), ("if b=c then(d)else e", 2),
                             ("if b=c then d else(e)", 2)):
            for times in (30 - deeper, 31 - deeper):
                self.assertEqual(read("a=" + "(" * times + part + ")" * times + ";"), rules(1), part)
            times = 32 - deeper
            self.assertEqual(read("a=" + "(" * times + part + ")" * times + ";"), NOT_READABLE, part)

    def test_beside_one_another_is_not_deeper(self):
        deep = "(" * 31 + "b" + ")" * 31
        self.assertEqual(read(f"a={deep}&{deep};b={deep};"), rules(2))
        self.assertEqual(read(f"a=if {deep}={deep} then b else c;"), rules(1))
        self.assertEqual(read(f"a=if b=c then {deep[1:-1]} else {deep[1:-1]};"), rules(1))
        self.assertEqual(read(f"a=if b=c then {deep} else c;"), NOT_READABLE)
        self.assertEqual(read(f"a=if b=c then b else {deep};"), NOT_READABLE)

    def test_too_deep_in_any_rule(self):
        deep = "(" * 32 + "b" + ")" * 32
        for at in (0, 1, 5):
            formulas = ["b"] * 6
            formulas[at] = deep
            text = "".join(f"n{number}={formula};" for number, formula in enumerate(formulas))
            self.assertEqual(read(text), NOT_READABLE)

    def test_too_deep_comes_before_a_doubled_name(self):
        self.assertEqual(read("a=b;a=" + "(" * 31 + "b" + ")" * 31 + ";"), doubled(1))
        self.assertEqual(read("a=b;a=" + "(" * 32 + "b" + ")" * 32 + ";"), NOT_READABLE)

    def test_as_deep_as_the_tokens_go(self):
        for opening, closing, times in (("(", ")", 2046), ("get(", ")", 1364), ("first(", ",1)", 682)):
            self.assertEqual(read(nested(opening, closing, times)), NOT_READABLE)
        self.assertEqual(read("a=" + 'if"x"="x"then ' * 800), NOT_READABLE)
        self.assertEqual(read("a=" + "if " * 4000), NOT_READABLE)


if __name__ == "__main__":
    unittest.main()
