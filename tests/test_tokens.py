"""ru_read: what a token is, and what can't be parted.

Where a sheet can't be parted the answer is the one of what is no sheet. So
that a test tells the two apart, a try is put behind more than 4,096 tokens:
what can be parted is then too many, and what can't is not readable.
"""

import unittest

from helper import NOT_READABLE, TOO_MANY_TOKENS, doubled, read, rules
from sheettexts.rules import ru_read

MANY = ";" * 4097
WORDS = ("if", "then", "else", "get", "first", "rest", "size")
NAME_BYTES = "abcdefghijklmnopqrstuvwxyz0123456789_"


def can_be_parted(text):
    answer = read(MANY + text)
    if answer not in (TOO_MANY_TOKENS, NOT_READABLE):
        raise AssertionError(answer)
    return answer == TOO_MANY_TOKENS


def tokens_in(text):
    # How many signs must go until it is not too many: so many tokens there are.
    signs = 0
    while read(text + " " + ";" * (4096 - signs)) == TOO_MANY_TOKENS:
        signs = signs + 1
    return signs


class TokenCase(unittest.TestCase):
    def parted(self, text, count):
        self.assertTrue(can_be_parted(text), text)
        self.assertEqual(tokens_in(text), count, text)

    def not_parted(self, text):
        self.assertFalse(can_be_parted(text), text)
        self.assertEqual(read(text), NOT_READABLE, text)


class Names(TokenCase):
    def test_every_small_letter_begins_a_name(self):
        for letter in "abcdefghijklmnopqrstuvwxyz":
            self.assertEqual(read(f"{letter}={letter};"), rules(1))

    def test_every_byte_of_a_name(self):
        for byte in NAME_BYTES:
            self.assertEqual(read(f"a{byte}=b{byte}{byte}c;"), rules(1), byte)

    def test_16_and_17_bytes(self):
        for name in ("a" * 16, "a" + "_" * 15, "a" + "9" * 15, "z0_" * 5 + "z"):
            self.assertEqual(read(f"{name}={name};"), rules(1), name)
            self.parted(name, 1)
            for byte in "a0_":
                self.not_parted(name + byte)
                self.assertEqual(read(f'{name}{byte}="x";'), NOT_READABLE)
                self.assertEqual(read(f"a={name}{byte};"), NOT_READABLE)

    def test_a_long_run_is_not_cut(self):
        for length in (18, 32, 33, 100):
            self.not_parted("a" * length)

    def test_a_run_that_begins_with_a_digit(self):
        self.parted("1a", 2)
        self.parted("1234a", 2)
        self.parted("1" + "a" * 16, 2)
        self.not_parted("1" + "a" * 17)
        self.not_parted("12345a")
        self.assertEqual(read('1a="x";'), NOT_READABLE)
        self.assertEqual(read("a=1a;"), NOT_READABLE)

    def test_a_run_that_begins_with_an_underscore(self):
        for text in ("_", "_a", "__", "_1", "a=_a;", '_a="x";', "1_"):
            self.not_parted(text)

    def test_words_are_no_names(self):
        for word in WORDS:
            self.parted(word, 1)
            self.assertEqual(read(f'{word}="x";'), NOT_READABLE)
            self.assertEqual(read(f"a={word};"), NOT_READABLE)
            self.assertEqual(read(f'a="x"&{word};'), NOT_READABLE)

    def test_names_that_are_a_word_and_more(self):
        for word in WORDS:
            names = [word + "a", word + "1", word + "_", word + word, "a" + word, word[:-1]]
            for name in names:
                self.assertEqual(read(f"{name}={name};"), rules(1), name)
        self.assertEqual(read("ifa=thenb&else1&get_&firstly&rests&sizes;"), rules(1))

    def test_other_words_are_names(self):
        for name in ("name", "number", "string", "end", "and", "or", "not"):
            self.assertEqual(read(f"{name}={name};"), rules(1), name)


class Numbers(TokenCase):
    def test_1_to_4_digits(self):
        for number in ("0", "7", "00", "10", "999", "4096", "0000", "0001", "9999"):
            self.assertEqual(read(f'a=first("x",{number});'), rules(1), number)
            self.assertEqual(read(f'a=rest("x",{number});'), rules(1), number)
            self.parted(number, 1)

    def test_every_digit(self):
        for digit in "0123456789":
            self.assertEqual(read(f'a=first("x",{digit});'), rules(1), digit)

    def test_5_digits(self):
        for number in ("00000", "00001", "10000", "12345", "123456789"):
            self.not_parted(number)
            self.assertEqual(read(f'a=first("x",{number});'), NOT_READABLE)

    def test_two_numbers(self):
        self.parted("1234 5", 2)
        self.parted("1234\n5678", 2)


class Strings(TokenCase):
    def string(self, inside):
        text = f'"{inside}"'
        self.assertEqual(read(f"a={text};"), rules(1), text)
        self.parted(text, 1)

    def test_no_bytes(self):
        self.string("")

    def test_each_escape(self):
        for inside in ('\\"', "\\\\", "\\n", '\\"\\"', "\\\\\\\\", '\\\\\\"', 'x\\"y\\\\z\\nw', "\\nn"):
            self.string(inside)

    def test_every_other_escape(self):
        for byte in range(256):
            if chr(byte) not in '"\\n':
                self.not_parted('"\\' + chr(byte) + '"')

    def test_every_byte(self):
        for byte in range(32, 256):
            if chr(byte) not in '"\\':
                self.assertEqual(read('a="' + chr(byte) + '";'), rules(1), byte)
        self.string("".join(chr(byte) for byte in range(127, 256)))

    def test_every_byte_below_32(self):
        for byte in range(32):
            self.not_parted('"' + chr(byte) + '"')
            self.not_parted('"x' + chr(byte) + 'y"')

    def test_what_would_be_tokens(self):
        for inside in ("=", ";;", "(", "if", "12345", "a" * 17, "_", "?", " "):
            self.string(inside)

    def test_a_long_one(self):
        self.string("x" * 12000)

    def test_no_end(self):
        for text in ('"', '"x', '"x;', '"\\', '"\\"', '"x\\', '"\\\\\\"', '"\\n', '"" "', '"""'):
            self.not_parted(text)
        self.assertEqual(read('a="x;'), NOT_READABLE)
        self.assertEqual(read('a="x\\";'), NOT_READABLE)

    def test_an_escaped_backslash_lets_the_string_end(self):
        self.parted('"\\\\" "x"', 2)
        self.parted('"\\" "', 1)


class SignsAndBlanks(TokenCase):
    def test_each_sign(self):
        for sign in "=&(),;":
            self.parted(sign, 1)
            self.parted(sign * 3, 3)

    def test_nothing_between(self):
        self.parted('a=if"x"=b&"y"then(c)else"z";', 15)
        self.parted('""""', 2)
        self.parted('a"x"b', 3)
        self.parted('1"x"2', 3)
        self.assertEqual(read('a=b&get("x")&first(c,0);b=if"x"="y"then"z"else a;'), rules(2))

    def test_blanks_anywhere_between(self):
        tokens = ["a", "=", "if", '"x"', "=", "b", "then", "first", "(", "c", ",", "1", ")",
                  "else", "d", "&", "size", "(", "e", ")", ";"]
        for blank in (" ", "\n", " \n ", "\n\n"):
            self.assertEqual(read(blank + blank.join(tokens) + blank), rules(1))

    def test_blanks_within_part_a_token(self):
        self.assertEqual(read("ab=ab;"), rules(1))
        for text in ("a b=ab;", "ab=a b;", "a=i f;", "a=if\"x\"=\"x\"th en b else c;", "a=g et(b);"):
            self.assertEqual(read(text), NOT_READABLE, text)
        self.assertEqual(read('a=first("x",1 2);'), NOT_READABLE)

    def test_a_blank_between_words_and_names(self):
        self.assertEqual(read("a=if b=c then d else e;"), rules(1))
        self.assertEqual(read("a=if b=c thend else e;"), NOT_READABLE)
        self.assertEqual(read("a=if b=c then d elsee;"), NOT_READABLE)
        self.assertEqual(read("a=ifb=c then d else e;"), NOT_READABLE)

    def test_every_byte_that_begins_no_token(self):
        begins = NAME_BYTES.replace("_", "") + '"=&(),; \n'
        for byte in range(256):
            if chr(byte) not in begins:
                self.assertEqual(ru_read([byte]), NOT_READABLE, byte)
                self.not_parted(chr(byte))
                self.not_parted("1" + chr(byte))
                self.assertEqual(read("a=b;" + chr(byte)), NOT_READABLE, byte)
            elif chr(byte) != '"':
                self.assertTrue(can_be_parted(chr(byte)), byte)

    def test_the_bytes_round_the_letters_and_digits(self):
        for byte in "`{/:@[AZ\t\r\x00\xff'+-*<>.!#{}":
            self.not_parted(byte)
            self.assertEqual(read(f"a={byte};"), NOT_READABLE)

    def test_a_rule_twice_with_other_blanks(self):
        self.assertEqual(read('a = b;a=b;'), doubled(1))


if __name__ == "__main__":
    unittest.main()
