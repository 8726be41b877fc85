"""What the tests share: calls laid out as lists, answers taken apart, and judges of messages and of kit's texts."""

import re
from functools import lru_cache

from saymessages.kit import answers

LEAST = -2 ** 63
MOST = 2 ** 63 - 1
CATEGORIES = ("zero", "one", "two", "few", "many", "other")


def row(told):
    if isinstance(told, str):
        told = told.encode("latin-1")
    return [len(told)] + list(told)


def language(tag, fallback="", separator=""):
    return [1] + row(tag) + row(fallback) + row(separator)


def rules(tag, *terms):
    return [2] + row(tag) + row([number for term in terms for number in term])


def put(tag, key, message):
    return [3] + row(tag) + row(key) + row(message)


def drop(tag, key):
    return [4] + row(tag) + row(key)


def judge(message):
    return [5] + row(message)


def number(slot, value):
    return [6, slot, value]


def word(slot, text):
    return [7, slot] + row(text)


def clear():
    return [8]


def show(tag, key):
    return [9] + row(tag) + row(key)


def wants(tag, key):
    return [10] + row(tag) + row(key)


def slots(tag, key):
    return [11] + row(tag) + row(key)


def text(tag, key):
    return [12] + row(tag) + row(key)


def category(value, tag):
    return [13, value] + row(tag)


def keys(tag):
    return [14] + row(tag)


def key(place, tag):
    return [15, place] + row(tag)


def lacks(tag):
    return [16] + row(tag)


def lack(place, tag):
    return [17, place] + row(tag)


def odds(tag):
    return [18] + row(tag)


def odd(place, tag):
    return [19, place] + row(tag)


def chain(tag):
    return [20] + row(tag)


def save():
    return [21]


def load(told):
    return [22] + row(told)


def taken_apart(told):
    """The answers as (number, row, bytes), with every count in the list checked."""
    apart = []
    while told:
        one = told[1:1 + told[0]]
        if len(one) != told[0]:
            raise ValueError("the list ends within an answer")
        told = told[1 + told[0]:]
        numbers = one[2:2 + one[1]]
        rest = one[2 + one[1]:]
        if len(numbers) != one[1] or len(rest) != 1 + rest[0]:
            raise ValueError("an answer's counts are wrong")
        apart.append((one[0], numbers, bytes(rest[1:])))
    return apart


def run(*calls):
    if len(calls) > 400 or sum(map(len, calls)) > 15000:
        raise ValueError("more than may be handed in")
    return taken_apart(answers([number for call in calls for number in call]))


def last(*calls):
    return run(*calls)[-1]


def in_cases(calls):
    """The answers to calls that do not hang on one another, however many: handed in as so many cases."""
    told, case, size = [], [], 0
    for call in calls:
        if len(case) == 400 or size + len(call) > 15000:
            told.extend(run(*case))
            case, size = [], 0
        case.append(call)
        size += len(call)
    return told + (run(*case) if case else [])


def shown(message, *arguments):
    """What one message in one language, without rules, shows; a comma is its separator."""
    return last(language("en", "", ","), put("en", "k", message), *arguments, show("en", "k"))


# The grammar of messages, written as section 1 tells it. A symbol is a set of bytes, of which one
# stands there, or a name with what it hangs on; each name can be replaced by any of its choices.

ALL = frozenset(range(256))
SPECIAL = frozenset(b"\\{}[]")
DIGIT = frozenset(b"0123456789")
WORD = frozenset(b"abcdefghijklmnopqrstuvwxyz0123456789_-")


def signs(told):
    return [frozenset([ord(sign)]) for sign in told]


def up_to(bound):
    """The whole numbers above 0 that are at most bound, choice by choice."""
    told = str(bound)
    choices = [[DIGIT - set(b"0")] + [DIGIT] * more for more in range(len(told) - 1)] + [signs(told)]
    for place, digit in enumerate(told):
        lower = frozenset(sign for sign in DIGIT if (sign > 48 or place > 0) and sign < ord(digit))
        if lower:
            choices.append(signs(told[:place]) + [lower] + [DIGIT] * (len(told) - place - 1))
    return choices


def words_but_other():
    choices = [[WORD] * length for length in range(1, 17) if length != 5]
    for place, sign in enumerate("other"):
        choices.append(signs("other"[:place]) + [WORD - {ord(sign)}] + [WORD] * (4 - place))
    return choices


def hole_choices(depth):
    choices = [signs("{%d}" % slot) for slot in range(16)]
    for slot in range(16):
        choices.append(signs("{%d group}" % slot))
        if depth < 8:
            choices.append(signs("{%d plural" % slot) + [("branches", "number", depth + 1)])
            choices.append(signs("{%d select" % slot) + [("branches", "word", depth + 1)])
    return choices


def choices_of(symbol):
    if symbol[0] == "message":
        depth = symbol[1]
        items = [[ALL - SPECIAL], signs("\\") + [SPECIAL | set(b"#")]] + hole_choices(depth)
        return [[]] + [item + [symbol] for item in items]
    if symbol[0] == "branches":
        message = [("message", symbol[2])]
        more = signs("[") + [("key", symbol[1])] + signs("|") + message + signs("]") + [symbol]
        return [signs("[other|") + message + signs("]}"), more]
    if symbol[1] == "word":
        return words_but_other()
    below = [signs("=-") + choice for choice in up_to(2 ** 63)]
    above = [signs("=") + choice for choice in up_to(2 ** 63 - 1)]
    return [signs(name) for name in CATEGORIES[:5]] + [signs("=0")] + below + above


CHOICES = {}


def spread(stacks):
    """Stacks with a set of bytes at their front (or nothing left), in the place of those with a name there."""
    ready, left = set(), list(stacks)
    while left:
        stack = left.pop()
        if not stack or isinstance(stack[0], frozenset):
            ready.add(stack)
            continue
        if stack[0] not in CHOICES:
            CHOICES[stack[0]] = [tuple(choice) for choice in choices_of(stack[0])]
        left.extend(choice + stack[1:] for choice in CHOICES[stack[0]])
    return frozenset(ready)


def begun():
    return spread([(("message", 0),)])


@lru_cache(maxsize=None)
def gone_on(stacks, byte):
    return spread([stack[1:] for stack in stacks if stack and byte in stack[0]])


def fault_of(told, stacks=None, place=0):
    """The place of the fault of a text, None if it is a message; stacks may stand for what is before place."""
    stacks = begun() if stacks is None else stacks
    for at in range(place, len(told)):
        stacks = gone_on(stacks, told[at])
        if not stacks:
            return at
    return None if () in stacks else len(told)


# The kit's text, read as section 5 tells it.

TAG = rb"[a-z0-9][a-z0-9-]{0,11}"
DECIMAL = rb"(0|[1-9][0-9]{0,9})"
LANGUAGE_LINE = re.compile(rb"language (" + TAG + rb") (-|" + TAG + rb") (?:-|(?:[0-9a-f]{2}){1,4})\n")
RULE_LINE = re.compile(rb"rule [0-5] ([01]) [01] " + DECIMAL + rb" " + DECIMAL + rb" " + DECIMAL + rb"\n")
MESSAGE_LINE = re.compile(rb"message ([a-z0-9_.-]{1,24}) " + DECIMAL + rb"\n")


class KitText:
    """What has been read of a text: the languages' fallbacks, and the last one's rules and keys."""

    def __init__(self, told):
        self.told = told
        self.place = len(b"say\n")
        self.fallbacks = {}
        self.rules = []
        self.keys = []

    def ended(self):
        return not self.rules or self.rules[-1]

    def takes_language(self, match):
        if match[1] in self.fallbacks or len(self.fallbacks) == 12 or not self.ended():
            return False
        self.fallbacks[match[1]] = match[2]
        self.rules, self.keys, self.place = [], [], match.end()
        return True

    def takes_rule(self, match):
        if not self.fallbacks or self.keys or len(self.rules) == 32 or max(map(int, match.groups())) >= 2 ** 32:
            return False
        self.rules.append(match[1] == b"1")
        self.place = match.end()
        return True

    def takes_message(self, match):
        if not self.fallbacks or not self.ended() or len(self.keys) == 48 or match[1] <= max(self.keys, default=b""):
            return False
        self.keys.append(match[1])
        self.place = match.end() + int(match[2])
        body = self.told[match.end():self.place]
        self.place += 1
        return int(match[2]) <= 1024 and self.told[self.place - 1:self.place] == b"\n" and fault_of(body) is None

    def takes_one(self):
        for line, takes in ((LANGUAGE_LINE, self.takes_language), (RULE_LINE, self.takes_rule),
                            (MESSAGE_LINE, self.takes_message)):
            match = line.match(self.told, self.place)
            if match:
                return takes(match)
        return False

    def way_ends(self, tag):
        passed = set()
        while tag in self.fallbacks and tag not in passed:
            passed.add(tag)
            tag = self.fallbacks[tag]
        return tag == b"-"


def answer_to_load(told):
    """How many languages a text has, or that it's refused with the number of its first wrong line."""
    if not told.startswith(b"say\n"):
        return -6, [0], b""
    kit = KitText(told)
    while kit.place < len(told):
        lines = told[:kit.place].count(b"\n")
        if not kit.takes_one():
            return -6, [lines], b""
    if kit.ended() and all(kit.way_ends(tag) for tag in kit.fallbacks):
        return len(kit.fallbacks), [], b""
    return -6, [told.count(b"\n")], b""
