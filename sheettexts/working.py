"""Works out what a name stands for, by the steps of its rule.

The rules that are being worked out may lie in one another deeper than Python
lets calls lie: so they are kept in a list, and a loop takes one step at a time.
"""

MOST_TEXT_BYTES = 4096
MOST_READS = 20000


class NoRule(Exception):
    pass


class Ring(Exception):
    pass


class TextTooLong(Exception):
    pass


class TooManyReads(Exception):
    pass


# A rule that is being worked out, and the place of its step to come.
class OpenRule:
    def __init__(self, name, steps):
        self.name = name
        self.steps = steps
        self.place = 0


# The rules' steps by their names, how often a name was read, the rules that
# are being worked out, each read by the one before it, and the pile of texts.
class Work:
    def __init__(self, rules):
        self.rules = rules
        self.reads = 0
        self.opened = []
        self.texts = []


def open_rule(work, name):
    work.reads = work.reads + 1
    # The order in which the document names them: more than one may be due.
    if name not in work.rules:
        raise NoRule()
    if name in [rule.name for rule in work.opened]:
        raise Ring()
    if work.reads > MOST_READS:
        raise TooManyReads()
    work.opened.append(OpenRule(name, work.rules[name]))


# Every text on the pile is a list of its own, so that one may be put behind
# another without a new list of both.


def leave_string(texts, string):
    if len(string) > MOST_TEXT_BYTES:
        raise TextTooLong()
    texts.append(list(string))


def put_together(texts):
    right = texts.pop()
    left = texts[-1]
    if len(left) + len(right) > MOST_TEXT_BYTES:
        raise TextTooLong()
    left.extend(right)


def digits_of(number):
    return [ord(digit) for digit in str(number)]


def text_step(texts, what, value):
    if what == "string":
        leave_string(texts, value)
    elif what == "&":
        put_together(texts)
    elif what == "size":
        texts.append(digits_of(len(texts.pop())))
    elif what == "first":
        texts.append(texts.pop()[:value])
    else:
        texts.append(texts.pop()[value:])


def take_step(work, rule):
    what = rule.steps[rule.place][0]
    value = rule.steps[rule.place][1]
    rule.place = rule.place + 1
    if what == "name":
        open_rule(work, value)
    elif what == "get":
        open_rule(work, tuple(work.texts.pop()))
    elif what == "differ":
        if work.texts.pop() != work.texts.pop():
            rule.place = value
    elif what == "go":
        rule.place = value
    elif what == "end":
        work.opened.pop()
    else:
        text_step(work.texts, what, value)


def worked_out(rules, name):
    work = Work(rules)
    open_rule(work, name)
    while len(work.opened) > 0:
        take_step(work, work.opened[-1])
    return work.texts[0]
