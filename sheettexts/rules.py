"""Sheets of rules: each rule gives a name to a text made of other names' texts."""

from sheettexts.grammar import NoSheet, rules_of
from sheettexts.tokens import NotParted, tokens_of
from sheettexts.working import NoRule, Ring, TextTooLong, TooManyReads, worked_out

MOST_BYTES = 16384
MOST_TOKENS = 4096
MOST_RULES = 64

NUMBER_FORM = 0
REFUSAL_FORM = 1
TEXT_FORM = 2

NO_RULE = -2
ONE_NAME_TWICE = -22
TOO_MUCH = -28
IN_A_RING = -40
TOO_MANY_READS = -62
NOT_READABLE = -71


def first_repeated(names):
    seen = {}
    for number, name in enumerate(names):
        if name in seen:
            return number
        seen[name] = True
    return None


def refusal(number, at):
    return [REFUSAL_FORM, number, at]


def read_rules(rules):
    if len(rules) > MOST_RULES:
        return refusal(TOO_MUCH, MOST_RULES)
    second = first_repeated([name for name, steps in rules])
    if second is not None:
        return refusal(ONE_NAME_TWICE, second)
    return [NUMBER_FORM, len(rules)]


# Both calls need it: what ru_read answers, and the rules (none if there's no
# sheet to take them from).
def read_sheet(t):
    if len(t) > MOST_BYTES:
        return refusal(TOO_MUCH, 0), []
    try:
        tokens = tokens_of(t)
    except NotParted:
        return refusal(NOT_READABLE, 0), []
    if len(tokens) > MOST_TOKENS:
        return refusal(TOO_MUCH, 0), []
    try:
        rules = rules_of(tokens)
    except NoSheet:
        return refusal(NOT_READABLE, 0), []
    return read_rules(rules), rules


def work_answer(rules, name):
    try:
        text = worked_out(rules, name)
    except NoRule:
        return [NUMBER_FORM, NO_RULE]
    except Ring:
        return [NUMBER_FORM, IN_A_RING]
    except TextTooLong:
        return [NUMBER_FORM, TOO_MUCH]
    except TooManyReads:
        return [NUMBER_FORM, TOO_MANY_READS]
    return [TEXT_FORM, len(text)] + text


def ru_read(t):
    return read_sheet(t)[0]


def ru_work(t, name):
    sheet = read_sheet(t)
    answer = sheet[0]
    if answer[0] == REFUSAL_FORM:
        return [NUMBER_FORM, answer[1]]
    return work_answer(dict(sheet[1]), tuple(name))
