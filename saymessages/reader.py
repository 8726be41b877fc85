"""Reading a text as a message.

The reader never takes a byte unless a message can go on with it, so where it stops is the place of the fault.
"""

from saymessages.figures import DIGITS, within_64_bits
from saymessages.parts import ANY, CATEGORY, GROUP, OTHER, PLURAL, SAME, SELECT, Branch, Hole, Message
from saymessages.refusals import Faulty
from saymessages.rows import bytes_of
from saymessages.terms import CATEGORIES

DIGITS_IN_FRONT = "123456789"
DIGITS_BEHIND_1 = "012345"
WORD_SIGNS = "abcdefghijklmnopqrstuvwxyz0123456789_-"
LONGEST_WORD = 16
DEEPEST = 8
NAMED_AS = {"any": 0, "group": 1, "plural": 1, "select": 2}


# Branches that are being read; counted is the slot whose number # tells in them, None if it's a plain byte.
class Level:
    def __init__(self, kind, slot, counted, outer_parts):
        self.kind = kind
        self.slot = slot
        self.counted = counted
        self.outer_parts = outer_parts
        self.branches = []


# What lies within what is kept as a list of levels, so that nothing calls itself.
class Reader:
    def __init__(self, text):
        self.text = text
        self.place = 0
        self.levels = []
        self.parts = []
        self.named = [0, 0, 0]

    def at_end(self):
        return self.place == len(self.text)

    def stands(self, signs):
        return not self.at_end() and self.text[self.place] in bytes_of(signs)

    def take_byte(self):
        byte = self.text[self.place]
        self.place += 1
        return byte

    def take(self, signs):
        if not self.stands(signs):
            raise Faulty(self.place)
        return self.take_byte()

    def take_digit(self, digits):
        return self.take(digits) - ord("0")

    # None of the words begins another: as long as several are left, each has a further sign.
    def take_one_of(self, words):
        left = words
        taken = 0
        while taken < len(left[0]):
            byte = self.take([word[taken] for word in left])
            left = [word for word in left if ord(word[taken]) == byte]
            taken += 1
        return left[0]

    def take_slot(self):
        slot = self.take_digit(DIGITS)
        if slot == 1 and self.stands(DIGITS_BEHIND_1):
            slot = 10 + self.take_digit(DIGITS_BEHIND_1)
        return slot

    def take_whole_number(self):
        sign = 1
        if self.stands("-"):
            self.take("-")
            sign = -1
        value = sign * self.take_digit(DIGITS if sign == 1 else DIGITS_IN_FRONT)
        while value != 0 and self.stands(DIGITS):
            longer = value * 10 + sign * (self.text[self.place] - ord("0"))
            if not within_64_bits(longer):
                raise Faulty(self.place)
            self.take(DIGITS)
            value = longer
        return value

    def take_number_key(self):
        if self.stands("="):
            self.take("=")
            return Branch(SAME, self.take_whole_number())
        name = self.take_one_of(CATEGORIES)
        return Branch(OTHER if name == "other" else CATEGORY, CATEGORIES.index(name))

    def take_word_key(self):
        signs = [self.take(WORD_SIGNS)]
        while len(signs) < LONGEST_WORD and self.stands(WORD_SIGNS):
            signs.append(self.take(WORD_SIGNS))
        word = tuple(signs)
        return Branch(OTHER if word == bytes_of("other") else SAME, word)

    def counted_slot(self):
        return self.levels[-1].counted if self.levels else None

    def add_hole(self, kind, slot, branches):
        self.parts.append(Hole(kind, slot, branches))
        self.named[NAMED_AS[kind]] |= 1 << slot

    def read_hole(self):
        self.take("{")
        slot = self.take_slot()
        if self.take("} ") == ord("}"):
            self.add_hole(ANY, slot, [])
            return
        kind = self.take_one_of((GROUP, PLURAL, SELECT) if len(self.levels) < DEEPEST else (GROUP,))
        if kind == GROUP:
            self.take("}")
            self.add_hole(GROUP, slot, [])
            return
        counted = slot if kind == PLURAL else self.counted_slot()
        self.levels.append(Level(kind, slot, counted, self.parts))
        self.begin_branch()

    def begin_branch(self):
        level = self.levels[-1]
        self.take("[")
        branch = self.take_number_key() if level.kind == PLURAL else self.take_word_key()
        self.take("|")
        level.branches.append(branch)
        self.parts = branch.parts

    def end_branch(self):
        self.take("]")
        level = self.levels[-1]
        if level.branches[-1].kind != OTHER:
            self.begin_branch()
            return
        self.take("}")
        self.levels.pop()
        self.parts = level.outer_parts
        self.add_hole(level.kind, level.slot, level.branches)

    def read_part(self):
        if self.stands("\\"):
            self.take("\\")
            self.parts.append(self.take("\\{}[]#"))
        elif self.stands("{"):
            self.read_hole()
        elif self.stands("]") and self.levels:
            self.end_branch()
        elif self.stands("}[]"):
            raise Faulty(self.place)
        elif self.stands("#") and self.counted_slot() is not None:
            self.take("#")
            self.add_hole(GROUP, self.counted_slot(), [])
        else:
            self.parts.append(self.take_byte())


def read_message(text):
    reader = Reader(text)
    while not reader.at_end():
        reader.read_part()
    if reader.levels:
        raise Faulty(reader.place)
    return Message(text, reader.parts, reader.named)
