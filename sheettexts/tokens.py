"""Parts the bytes of a sheet into tokens.

A token is a tuple (kind, value). The kind is "name", "number" or "string", or
the word or the sign itself. The value is a name's bytes, the number, or the
bytes that a string stands for, bytes being a tuple; else it is None.
"""

NEWLINE = 10
BLANK = 32
QUOTE = 34
BACKSLASH = 92
UNDERSCORE = 95
SMALL_A = 97
SMALL_N = 110
SMALL_Z = 122
DIGIT_0 = 48
DIGIT_9 = 57

LOWEST_IN_STRING = 32
MOST_NAME_BYTES = 16
MOST_DIGITS = 4

SIGNS = {61: "=", 38: "&", 40: "(", 41: ")", 44: ",", 59: ";"}
WORDS = ("if", "then", "else", "get", "first", "rest", "size")


class NotParted(Exception):
    pass


def is_letter(byte):
    return SMALL_A <= byte <= SMALL_Z


def is_digit(byte):
    return DIGIT_0 <= byte <= DIGIT_9


def is_name_byte(byte):
    return is_letter(byte) or is_digit(byte) or byte == UNDERSCORE


def name_end(t, start):
    end = start
    while end < len(t) and is_name_byte(t[end]):
        end = end + 1
    # The run is not cut into shorter names: a run that is too long is no token.
    if end - start > MOST_NAME_BYTES:
        raise NotParted()
    return end


def number_end(t, start):
    end = start
    while end < len(t) and is_digit(t[end]):
        end = end + 1
    if end - start > MOST_DIGITS:
        raise NotParted()
    return end


def string_byte_end(t, at):
    if t[at] < LOWEST_IN_STRING:
        raise NotParted()
    if t[at] != BACKSLASH:
        return at + 1
    if at + 1 == len(t) or t[at + 1] not in (QUOTE, BACKSLASH, SMALL_N):
        raise NotParted()
    return at + 2


def string_end(t, start):
    at = start + 1
    while at < len(t) and t[at] != QUOTE:
        at = string_byte_end(t, at)
    if at == len(t):
        raise NotParted()
    return at + 1


def token_end(t, start):
    byte = t[start]
    if byte in SIGNS:
        return start + 1
    if byte == QUOTE:
        return string_end(t, start)
    if is_letter(byte):
        return name_end(t, start)
    if is_digit(byte):
        return number_end(t, start)
    raise NotParted()


def word_or_name(body):
    for word in WORDS:
        if body == tuple([ord(letter) for letter in word]):
            return word
    return "name"


def kind_of(body):
    byte = body[0]
    if byte in SIGNS:
        return SIGNS[byte]
    if byte == QUOTE:
        return "string"
    if is_digit(byte):
        return "number"
    return word_or_name(body)


def number_of(body):
    number = 0
    for byte in body:
        number = number * 10 + byte - DIGIT_0
    return number


def string_of(body):
    string = []
    at = 1
    while at < len(body) - 1:
        if body[at] == BACKSLASH:
            at = at + 1
            string.append(NEWLINE if body[at] == SMALL_N else body[at])
        else:
            string.append(body[at])
        at = at + 1
    return tuple(string)


def token_of(body):
    kind = kind_of(body)
    if kind == "name":
        return kind, body
    if kind == "number":
        return kind, number_of(body)
    if kind == "string":
        return kind, string_of(body)
    return kind, None


def tokens_of(t):
    tokens = []
    at = 0
    while at < len(t):
        if t[at] in (BLANK, NEWLINE):
            at = at + 1
        else:
            end = token_end(t, at)
            tokens.append(token_of(tuple(t[at:end])))
            at = end
    return tokens
