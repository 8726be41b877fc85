"""P2: shown is the first branch that fits, alone. P3: what's shown hangs on the slots named alone."""

import random
import unittest

from tests.helper import (LEAST, MOST, clear, language, last, number, put, rules, run, show, shown, slots, wants,
                          word)


class Arguments(unittest.TestCase):
    def test_bytes_as_they_are(self):
        text = bytes(byte for byte in range(256) if byte not in b"\\{}[]")
        self.assertEqual(shown(text), (0, [0], text))
        self.assertEqual(shown("\\\\\\{\\}\\[\\]\\#"), (0, [0], b"\\{}[]#"))
        self.assertEqual(shown(""), (0, [0], b""))

    def test_texts_and_numbers(self):
        self.assertEqual(shown("<{0}>", word(0, "a{1}\\#]")), (0, [0], b"<a{1}\\#]>"))
        self.assertEqual(shown("<{0}>", word(0, "")), (0, [0], b"<>"))
        self.assertEqual(shown("<{0}{1}>", number(0, -12), word(1, bytes([0, 255]))), (0, [0], b"<-12\x00\xff>"))

    def test_values(self):
        for value in (LEAST, LEAST + 1, -1, 0, MOST - 1, MOST):
            self.assertEqual(run(number(0, value))[0], (0, [], b""))
            self.assertEqual(shown("{0}", number(0, value)), (0, [0], str(value).encode()))
        for value in (LEAST - 1, MOST + 1, 2 ** 64, -2 ** 65, 2 ** 65 - 1):
            self.assertEqual(run(number(0, value))[0], (-1, [], b""))
            self.assertEqual(shown("{0}", number(0, value)), (-7, [1], b""))

    def test_slots(self):
        for slot in range(16):
            self.assertEqual(run(number(slot, 1), word(slot, "")), [(0, [], b"")] * 2)
            message = "{" + str(slot) + "}"
            self.assertEqual(shown(message), (-7, [2 ** slot], b""))
            self.assertEqual(shown(message, number(slot, slot)), (0, [0], str(slot).encode()))
        for slot in (16, 17, 31, 64, MOST):
            self.assertEqual(run(number(slot, 1), word(slot, "")), [(-1, [], b"")] * 2)

    def test_lengths(self):
        self.assertEqual(shown("{0}", word(0, "a" * 64)), (0, [0], b"a" * 64))
        self.assertEqual(run(word(0, "a" * 64), word(0, "a" * 65)), [(0, [], b""), (-1, [], b"")])
        self.assertEqual(shown("{0}", word(0, "a" * 65)), (-7, [1], b""))

    def test_the_last_one_counts(self):
        self.assertEqual(shown("{0}", word(0, "a"), number(0, 5)), (0, [0], b"5"))
        self.assertEqual(shown("{0 group}", number(0, 5), word(0, "a")), (-7, [1], b""))
        self.assertEqual(shown("{0}", number(0, 5), word(0, "a"), word(0, "b")), (0, [0], b"b"))

    def test_clear(self):
        self.assertEqual(shown("{0}{1}{2}", number(0, 5), word(1, "a"), clear(), word(2, "")), (-7, [3], b""))
        self.assertEqual(run(clear(), clear()), [(0, [], b"")] * 2)

    def test_long(self):
        self.assertEqual(shown("{0}" * 341, word(0, "abcd" * 16)), (0, [0], b"abcd" * 16 * 341))
        self.assertEqual(shown("{0 plural[other|" + "#" * 1006 + "]}", number(0, 1000)), (0, [0], b"1,000" * 1006))


class Wanted(unittest.TestCase):
    def check(self, message, bits, *arguments):
        told = run(language("en"), put("en", "k", message), *arguments, show("en", "k"), wants("en", "k"))
        self.assertEqual(told[-2][:2], (-7, [bits]) if bits else (0, [0]))
        self.assertEqual(told[-1], (bits, [], b""))

    def test_kinds(self):
        for message, of_number, of_text in (("{2}", 0, 0), ("{2 group}", 0, 4), ("{2 plural[other|]}", 0, 4),
                                            ("{2 select[other|]}", 4, 0)):
            self.check(message, 4)
            self.check(message, of_number, number(2, 1))
            self.check(message, of_text, word(2, "1"))

    def test_all_that_are_wanted(self):
        self.check("{0}{1}{15}{1}", 32771)
        self.check("{0}{1}{15}{1}", 32769, number(1, 1))
        self.check("{0}{0 group}{0 select[other|]}", 1)
        self.check("{0}{0 group}{0 select[other|]}", 1, number(0, 1))

    def test_nothing_of_branches_whose_argument_is_wanted(self):
        message = "{0 plural[=1|{1}][other|{2}]}{3}"
        self.check(message, 9)
        self.check(message, 9, word(0, "1"))
        self.check(message, 10, number(0, 1))
        self.check(message, 12, number(0, 2))
        message = "{0 select[a|{1}][other|{2 plural[other|{4}]}]}{3}"
        self.check(message, 9, number(0, 1))
        self.check(message, 10, word(0, "a"))
        self.check(message, 12, word(0, "b"))
        self.check(message, 24, word(0, "b"), number(2, 0))

    def test_branches_that_are_not_taken_want_nothing(self):
        message = "{0 select[a|x{1}][b|{2 group}][other|{3 plural[=1|{4}][other|!]}]}"
        self.check(message, 0, word(0, "a"), number(1, 1))
        self.check(message, 0, word(0, "b"), number(2, 1))
        self.check(message, 0, word(0, "c"), number(3, 2))
        self.check(message, 16, word(0, "c"), number(3, 1))

    def test_a_branch_that_comes_twice(self):
        self.check("{0 select[a|][a|{1}][other|{2}]}", 0, word(0, "a"))
        self.check("{0 plural[=3|][=3|{1}][other|{2}]}", 0, number(0, 3))


class Branches(unittest.TestCase):
    def test_numbers(self):
        message = "{0 plural[=5|five][=-5|minus five][=0|none][other|#]}"
        for value, text in ((5, b"five"), (-5, b"minus five"), (0, b"none"), (4, b"4"), (-1000, b"-1,000")):
            self.assertEqual(shown(message, number(0, value)), (0, [0], text))

    def test_ends_of_64_bits(self):
        message = "{0 plural[=-9223372036854775808|least][=9223372036854775807|most][other|]}"
        for value, text in ((LEAST, b"least"), (MOST, b"most"), (LEAST + 1, b""), (MOST - 1, b"")):
            self.assertEqual(shown(message, number(0, value)), (0, [0], text))

    def test_words(self):
        message = "{0 select[a|1][ab|2][abcdefghijklmnop|3][one|4][5|5][other|6]}"
        for text, told in (("a", b"1"), ("ab", b"2"), ("abc", b"6"), ("abcdefghijklmnop", b"3"), ("", b"6"),
                           ("abcdefghijklmnopq", b"6"), ("A", b"6"), ("one", b"4"), ("5", b"5"), ("other", b"6"),
                           ("a\x00", b"6"), ("a" * 64, b"6")):
            self.assertEqual(shown(message, word(0, text)), (0, [0], told))

    def test_the_first_that_fits(self):
        one = rules("en", (1, 1, 0, 0, 1, 1))
        for branches, text in (("[=1|a][one|b][other|c]", b"a"), ("[one|b][=1|a][other|c]", b"b"),
                               ("[two|a][few|b][other|c]", b"c"), ("[one|x][one|y][other|c]", b"x"),
                               ("[=-1|x][=1|y][=1|z][other|c]", b"y"), ("[other|c]", b"c")):
            self.assertEqual(shown("{0 plural" + branches + "}", one, number(0, 1)), (0, [0], text))
        self.assertEqual(shown("{0 select[b|1][a|2][a|3][other|4]}", word(0, "a")), (0, [0], b"2"))

    def test_alone_and_from_left_to_right(self):
        message = "<{0 plural[=1|({1 select[x|{0}][other|y]})][other|z]}|{1}>"
        self.assertEqual(shown(message, number(0, 1), word(1, "x")), (0, [0], b"<(1)|x>"))
        self.assertEqual(shown(message, number(0, 1), word(1, "")), (0, [0], b"<(y)|>"))
        self.assertEqual(shown(message, number(0, 2), word(1, "x")), (0, [0], b"<z|x>"))

    def test_8_deep(self):
        message = ""
        for depth in range(8):
            message = "{0 plural[=%d|no][other|%d" % (depth, depth) + message + "#]}"
        self.assertEqual(shown(message, number(0, 9)), (0, [0], b"76543210" + b"9" * 8))


RULES = ((1, 1, 0, 0, 1, 1), (3, 1, 0, 10, 2, 4), (4, 1, 0, 5, 0, 0))
TEXTS = ("a", "b", "ab", "other")


def category(value):
    size = abs(value)
    return "one" if size == 1 else "few" if size % 10 in (2, 3, 4) else "many" if size % 5 == 0 else "other"


class Tree:
    """A message made by chance: what it is as a text and, by itself, what it shows."""

    def __init__(self, chance):
        self.chance = chance

    def items(self, depth, counted):
        return [self.item(depth, counted) for count in range(self.chance.randrange(4))]

    def item(self, depth, counted):
        kinds = ["byte", "escape", "any", "group"] + ["plural", "select"] * (2 if depth < 4 else 0)
        kinds += ["sign"] * 3 if counted is not None else []
        kind = self.chance.choice(kinds)
        slot = self.chance.randrange(6)
        if kind == "byte":
            return kind, self.chance.choice("xyz|,= 0")
        if kind == "escape":
            return kind, self.chance.choice("\\{}[]#")
        if kind == "sign":
            return kind, counted
        if kind in ("any", "group"):
            return kind, slot
        keys = ["=1", "=-2", "=10", "one", "two", "few", "many"] if kind == "plural" else ["a", "b", "ab", "one"]
        chosen = [self.chance.choice(keys) for count in range(self.chance.randrange(4))] + ["other"]
        within = slot if kind == "plural" else counted
        return kind, slot, [(key, self.items(depth + 1, within)) for key in chosen]


def written(items):
    text = ""
    for item in items:
        if item[0] == "byte":
            text += item[1]
        elif item[0] == "escape":
            text += "\\" + item[1]
        elif item[0] == "sign":
            text += "#"
        elif item[0] == "any":
            text += "{%d}" % item[1]
        elif item[0] == "group":
            text += "{%d group}" % item[1]
        else:
            branches = "".join("[" + key + "|" + written(within) + "]" for key, within in item[2])
            text += "{%d %s%s}" % (item[1], item[0], branches)
    return text


def named(items):
    bits = [0, 0, 0]
    for item in items:
        place = {"any": 0, "group": 1, "plural": 1, "select": 2}.get(item[0])
        if place is not None:
            bits[place] |= 2 ** item[1]
        for key, within in item[2] if len(item) == 3 else []:
            bits = [one | other for one, other in zip(bits, named(within))]
    return bits


def expected(items, arguments, name_of=category, separator=","):
    """The slots wanted, as bits, and the text; name_of tells the name of a number's category."""
    wanted, text = 0, ""
    for item in items:
        if item[0] in ("byte", "escape"):
            text += item[1]
            continue
        value = arguments.get(item[1])
        asked = {"any": (int, str), "select": str}.get(item[0], int)
        if not isinstance(value, asked):
            wanted |= 2 ** item[1]
        elif item[0] == "any":
            text += str(value)
        elif item[0] in ("group", "sign"):
            text += "{:,}".format(value).replace(",", separator)
        else:
            fitting = ["=%d" % value, name_of(value)] if item[0] == "plural" else [value]
            taken = [within for key, within in item[2] if key in fitting or key == "other"][0]
            more, within = expected(taken, arguments, name_of, separator)
            wanted, text = wanted | more, text + within
    return wanted, text


def as_calls(arguments):
    return [number(slot, value) if isinstance(value, int) else word(slot, value) for slot, value in arguments.items()]


class ByChance(unittest.TestCase):
    def setUp(self):
        self.chance = random.Random(4)

    def arguments(self):
        told = {}
        for slot in range(6):
            told[slot] = self.chance.choice([None, 0, 1, -2, 10, 1004, -1000000] + list(TEXTS) * 2)
        return {slot: value for slot, value in told.items() if value is not None}

    def messages(self, count):
        made = []
        while len(made) < count:
            items = Tree(self.chance).items(0, None)
            if items and len(written(items)) <= 1024:
                made.append(items)
        return made

    def test_shown_and_wanted(self):
        for items in self.messages(400):
            calls = [language("en", "", ","), rules("en", *RULES), put("en", "k", written(items)), slots("en", "k")]
            asked = [self.arguments() for turn in range(8)]
            for arguments in asked:
                calls.extend([clear()] + as_calls(arguments) + [wants("en", "k"), show("en", "k")])
            told = run(*calls)
            self.assertEqual(told[3], (0, named(items), b""))
            place = 3
            for arguments in asked:
                place += len(arguments) + 3
                wanted, text = expected(items, arguments)
                self.assertEqual(told[place - 1], (wanted, [], b""), written(items))
                self.assertEqual(told[place], (-7, [wanted], b"") if wanted else (0, [0], text.encode()))

    def test_slots_that_are_not_named_do_not_matter(self):
        for items in self.messages(200):
            base = [language("en", "", ","), rules("en", *RULES), put("en", "k", written(items))]
            as_any, as_number, as_text = named(items)
            bits = as_any | as_number | as_text
            arguments = self.arguments()
            before = run(*base, *as_calls(arguments), show("en", "k"), wants("en", "k"))[-2:]
            changed = [call for slot in range(16) if not bits >> slot & 1 for call in (number(slot, 7), word(slot, "b"))]
            after = run(*base, *as_calls(arguments), *changed, show("en", "k"), wants("en", "k"))[-2:]
            alone = {slot: value for slot, value in arguments.items() if bits >> slot & 1}
            few = run(*base, *as_calls(alone), show("en", "k"), wants("en", "k"))[-2:]
            self.assertEqual(before, after)
            self.assertEqual(before, few)
            self.assertEqual(before[1][0] & ~bits, 0)


if __name__ == "__main__":
    unittest.main()
