"""P7: a text that is no kit's text is refused, with the number of its first wrong line."""

import random
import unittest

from tests.helper import answer_to_load, in_cases, load, run, save

A = "say\nlanguage a - -\n"
RULE = "rule 1 1 0 0 1 1\n"
OPEN_RULE = "rule 1 0 0 0 1 1\n"

# A text and its first wrong line, as the words tell it.
FIRST_LINE = (
    ("", 0), ("s", 0), ("say", 0), ("say ", 0), ("say \n", 0), (" say\n", 0), ("say\r\n", 0), ("Say\n", 0), ("\n", 0),
    ("\nsay\n", 0), ("sayy\n", 0), ("say say\n", 0), ("sa\n", 0), ("language a - -\n", 0), ("\n\n\n", 0),
    ("say\x00\n", 0), ("say\nlanguage a - -", 1), ("say\n\n", 1), ("say\nsay\n", 1), ("say\n ", 1), ("say\n ", 1), ("say\nx", 1),
    ("say\nlanguages a - -\n", 1), ("say\nlanguage\n", 1), ("say\nLanguage a - -\n", 1),
)

LANGUAGES = tuple(("say\nlanguage " + line, 1) for line in (
    "a - -", "a -\n", "a - - \n", "a -  -\n", "a  - -\n", " a - -\n", "a - - -\n", "a - -\r\n", "a  -\n", "a - \n",
    "\n", "a\n", "- - -\n", "-a - -\n", "A - -\n", "a_ - -\n", "a. - -\n", "aaaaaaaaaaaaa - -\n", "\xe4 - -\n",
    "a -- -\n", "a -a -\n", "a A -\n", "a aaaaaaaaaaaaa -\n", "a a. -\n", "a b\n",
    "a - 0\n", "a - 2C\n", "a - 2c0\n", "a - 2G\n", "a - 2g\n", "a - g2\n", "a - FF\n", "a - --\n", "a - -2\n",
    "a - 2c-\n", "a - 0011223344\n", "a - 00112233445\n", "a - 001122334\n", "a - 00 11\n", "a - 0x2c\n", "a - /0\n",
    "a - :0\n", "a - `0\n", "a - 2c\x00\n",
)) + (
    (A + "language a - -\n", 2), (A + "language b - -\nlanguage a b -\n", 3),
    (A + "message k 3\na\nb\nlanguage a - -\n", 5),
    (A + "".join("language b%d - -\n" % count for count in range(12)), 13),
    (A + "".join("language b%d - -\n" % count for count in range(11)) + "language a - -\n", 13),
    (A + "".join("language b%d - -\n" % count for count in range(13)) + "x", 13),
)

RULES = tuple((A + "rule " + line, 2) for line in (
    "1 1 0 0 1 1", "1 1 0 0 1\n", "1 1 0 0 1 1 1\n", "1 1 0 0 1 1 \n", "1 1 0 0 1  1\n", " 1 1 0 0 1 1\n", "\n", "1\n",
    "6 1 0 0 1 1\n", "1 2 0 0 1 1\n", "1 1 2 0 1 1\n", "1 1 0 4294967296 1 1\n", "1 1 0 0 4294967296 1\n",
    "1 1 0 0 1 4294967296\n", "1 1 0 0 1 9999999999\n", "1 1 0 0 1 10000000000\n", "1 1 0 0 1 " + "9" * 5000 + "\n",
    "01 1 0 0 1 1\n", "1 01 0 0 1 1\n", "1 1 00 0 1 1\n", "1 1 0 00 1 1\n", "1 1 0 0 01 1\n", "1 1 0 0 1 01\n",
    "1 1 0 0 1 -1\n", "1 1 0 0 1 +1\n", "1 1 0 0 1 -0\n", "1 1 0 0 1 a\n", "1 1 0 0 1 1_0\n", "1 1 0 0 1 0x1\n",
    "1 1 0 0 1 \xb2\n", "1 1 0 0 1 /\n", "1 1 0 0 1 :\n", "- 1 0 0 1 1\n", "1 1 0  1 1\n",
)) + (
    (A + "rules 1 1 0 0 1 1\n", 2), (A + "rule" + "\n", 2),
    ("say\n" + RULE, 1), ("say\n" + RULE + "language a - -\n", 1),
    (A + "message k 0\n\n" + RULE, 4), (A + RULE + "message k 2\n\n\n\n" + RULE, 7),
    (A + RULE * 33, 34), (A + RULE * 33 + "x", 34), (A + RULE * 32 + "language b - -\n" + RULE * 33, 67),
    # A rule that doesn't end: the line behind the rules is the one that may not stand there.
    (A + OPEN_RULE + "language b - -\n", 3), (A + RULE + OPEN_RULE + "language b - -\n" + RULE, 4),
    (A + OPEN_RULE + "message k 0\n\n", 3), (A + RULE + OPEN_RULE + "message k 0\n\nlanguage b - -\n", 4),
    (A + OPEN_RULE + "say\n", 3), (A + OPEN_RULE * 32 + RULE, 34),
    (A + OPEN_RULE, 3), (A + RULE + OPEN_RULE, 4), (A + OPEN_RULE * 32, 34), (A + OPEN_RULE + RULE + OPEN_RULE, 5),
    (A + "message k 1\n\n\nlanguage b a -\n" + OPEN_RULE, 7),
    (A + OPEN_RULE + RULE + "language b - -\n" + OPEN_RULE + "language c - -\n", 6),
)

MESSAGES = tuple((A + "message " + line, 2) for line in (
    "k 1", "k 1\n", "k 1\na", "k 1\n\n", "k 0\n", "k 0\na\n", "k 0", "k 2\na\n", "k 2\na\nx", "k 1\nab\n", "k 3\nab",
    "k 0\nmessage l 0\n\n", "k 1 \na\n", "k  1\na\n", " k 1\na\n", "k 1 1\na\n", "k\n", "\n", "k \n\n", " 0\n\n",
    "k k 0\n\n", "K 1\na\n", "k/ 1\na\n", "\xe4 1\na\n", "k" * 25 + " 1\na\n", "k 01\na\n", "k 00\n\n", "k -1\n\n",
    "k +1\na\n", "k a\na\n",
    "k 1025\n" + "a" * 1025 + "\n", "k 1024\n" + "a" * 1025 + "\n", "k 1024\n" + "a" * 1023 + "\n", "k 4294967296\na\n",
    "k 99999999999\na\n", "k " + "1" * 5000 + "\na\n", "k 9223372036854775808\n\n",
    "k 1\n}\n", "k 1\n{\n", "k 2\n{1\n", "k 3\n{16\n", "k 4\n{16}\n", "k 1\n\\\n", "k 1\n]\n",
    "k 19\n{1 plural[one|aaa]}\n", "k 3\n\n\n}\n", "k 1\na\x00", "k 1\na\r\n",
)) + (
    (A + "messages k 0\n\n", 2), ("say\nmessage k 0\n\n", 1), ("say\nmessage k 0\n\nlanguage a - -\n", 1),
    # Keys rise.
    (A + "message k 0\n\nmessage k 0\n\n", 4), (A + "message l 0\n\nmessage k 0\n\n", 4),
    (A + "message ka 0\n\nmessage k 0\n\n", 4), (A + "message k 0\n\nmessage ka 0\n\nmessage k 0\n\n", 6),
    (A + "message _ 0\n\nmessage 0 0\n\n", 4), (A + "message 0 0\n\nmessage . 0\n\n", 4),
    (A + "message . 0\n\nmessage - 0\n\n", 4), (A + "message a 0\n\nmessage _ 0\n\n", 4),
    (A + "message k 0\n\nlanguage b - -\nmessage j 0\n\nmessage i 0\n\n", 7),
    # At most 48.
    (A + "".join("message %02d 0\n\n" % count for count in range(49)), 98),
    (A + "".join("message %02d 1\n\n\n" % count for count in range(49)), 146),
    (A + "".join("message %02d 0\n\n" % count for count in range(48)) + "message k 1\n}\n", 98),
    # Lines are counted over messages that hold 0AH, and within them nothing is one.
    (A + "message k 3\n\n\n\n\nx\n", 7), (A + "message k 5\nsay\nx\n\n", 5),
    (A + "message j 2\na\n\nmessage k 4\n\n{1}\nx", 8), (A + "message k 10\na\nb\nc\nd\ne\n\nmessage k 0\n\n", 9),
    (A + "message k 15\nlanguage a - -\n\nlanguage a - -\n", 5), (A + "message k 12\nmessage j 9\n\nx\n", 5),
    (A + "message j 2\n\n\n\nmessage k 3\n\n\n{\n", 6),
    # Of a message that's wrong it's the line with its key, wherever the fault of its bytes is.
    (A + "message j 1\n\n\nmessage k 6\na\nb\n}c\n", 5), (A + "message j 1\n\n\nmessage k 6\na\nb\nc", 5),
    (A + "message j 1\n\n\nmessage k 3\na\nb\nc\n", 8), (A + "message j 1\n\n\nmessage k 3\na\nbc\n", 5),
)

# Where all lines are right: how many lines there are.
WAYS = (
    ("say\nlanguage a b -\n", 2), (A + "language b c -\n", 3), ("say\nlanguage a b -\nlanguage b c -\n", 3),
    ("say\nlanguage a b -\nmessage k 3\na\nb\n", 5), ("say\nlanguage a a -\n", 2),
    ("say\nlanguage a a -\nlanguage b - -\n", 3),
    (A + "language b b -\nmessage k 1\n\n\n", 6), ("say\nlanguage a b -\nlanguage b a -\n", 3),
    ("say\nlanguage a b -\nlanguage b c -\nlanguage c a -\n", 4),
    ("say\nlanguage a b -\nlanguage b c -\nlanguage c b -\n", 4),
    ("say\n" + "".join("language l%d l%d -\n" % (place, (place + 1) % 12) for place in range(12)), 13),
    ("say\n" + "".join("language l%d l%d -\n" % (place, min(place + 1, 11)) for place in range(12)), 13),
    ("say\n" + "".join("language l%d l%d -\n" % (place, place + 1) for place in range(12)), 13),
    ("say\nlanguage a ab -\nlanguage abc - -\n", 3), ("say\nlanguage a b -\n" + OPEN_RULE, 3),
    # A wrong line comes first, even behind such a language.
    ("say\nlanguage a b -\nx\n", 2), ("say\nlanguage a a -\nmessage k 1\n}\n", 2),
    ("say\nlanguage a a -\nlanguage a - -\n", 2),
    ("say\nlanguage a b -\nlanguage b a -\n\n", 3), ("say\nlanguage a b -\n" + OPEN_RULE + "language c - -\n", 3),
)

WRONG = FIRST_LINE + LANGUAGES + RULES + MESSAGES + WAYS

# Each kind of line, and messages of several lines.
SAMPLES = (
    b"say\nlanguage en - 2c\nrule 1 1 0 0 1 1\nrule 0 0 0 10 2 4\nrule 3 1 1 100 12 14\nmessage a.b 5\nx\n{3}\n"
    b"message k 0\n\nlanguage de-1 en -\nmessage k 10\n{1}\n\n{2}\\#\n",
    b"say\nlanguage a c 00ff0a20\nmessage a 1\n\n\nmessage ab 2\n\n\n\nlanguage b - -\nrule 5 1 0 4294967295 0 10\n"
    b"language c b 9a\nmessage _ 12\nmessage k 0\n\n",
    b"say\nlanguage a - -\nmessage k 25\n{1 plural[=1|#][other|]}\n\nlanguage b a -\nlanguage c b -\n",
)
BYTES = b"\x00\n\x1f !,-./0123456789:@AFGZ[\\]_`abefghlz{|}~\x7f\x80\xff"


def spoilt(told):
    """The text cut, with a byte left out, doubled, put in or put in the place of another, at every place."""
    for place in range(len(told) + 1):
        yield told[:place]
        yield told[:place] + told[place + 1:]
        for byte in BYTES:
            yield told[:place] + bytes([byte]) + told[place:]
            yield told[:place] + bytes([byte]) + told[place + 1:]
        for byte in told[place:place + 1]:
            for other in (byte - 1, byte + 1, byte ^ 32):
                yield told[:place] + bytes([other % 256]) + told[place + 1:]


def without_lines(told):
    """The text without some of its lines, with one of them twice, or with two of them changed over."""
    lines = told.splitlines(keepends=True)
    for start in range(len(lines)):
        for end in range(start, len(lines)):
            yield b"".join(lines[:start] + lines[end + 1:])
            yield b"".join(lines[:end] + lines[start:])
            over = list(lines)
            over[start], over[end] = lines[end], lines[start]
            yield b"".join(over)


def by_chance(chance, told):
    """The text with pieces of it left out, doubled, put elsewhere, or with a piece of another one put in."""
    for count in range(chance.randrange(1, 4)):
        start = chance.randrange(len(told) + 1)
        end = min(len(told), start + chance.randrange(20))
        other = chance.choice(SAMPLES + (told,))
        place = chance.randrange(len(other))
        piece = other[place:place + chance.randrange(30)]
        told = chance.choice([told[:start] + told[end:], told[:end] + told[start:], told[:start] + piece + told[end:],
                              told[:start] + piece + told[start:]])
    return told


class WrongTexts(unittest.TestCase):
    def test_each(self):
        for (told, line), answer in zip(WRONG, in_cases(load(told) for told, line in WRONG)):
            self.assertEqual(answer, (-6, [line], b""), told)

    def test_the_tests_own_reading(self):
        for told, line in WRONG:
            self.assertEqual(answer_to_load(told.encode("latin-1")), (-6, [line], b""), told)
        self.assertEqual([answer_to_load(told) for told in SAMPLES], [(count, [], b"") for count in (2, 3, 3)])

    def check(self, texts):
        """Each text is loaded, and what is there behind it saved: that text, or, if it's refused, what was there."""
        case, size = [], 0
        for told in dict.fromkeys(texts):
            if len(case) == 200 or size + len(told) + 10 > 15000:
                self.check_case(case)
                case, size = [], 0
            case.append(told)
            size += len(told) + 10
        self.check_case(case)

    def check_case(self, texts):
        there = b"say\n"
        answers = run(*[call for told in texts for call in (load(told), save())])
        for told, loaded, saved in zip(texts, answers[::2], answers[1::2]):
            self.assertEqual(loaded, answer_to_load(told), told)
            there = told if loaded[0] >= 0 else there
            self.assertEqual(saved, (0, [], there), told)

    def test_cut_or_spoilt_at_every_place(self):
        for told in SAMPLES:
            self.check(spoilt(told))

    def test_lines_left_out_doubled_or_changed_over(self):
        for told in SAMPLES:
            self.check(without_lines(told))

    def test_by_chance(self):
        chance = random.Random(8)
        self.check([by_chance(chance, chance.choice(SAMPLES)) for turn in range(3000)])


if __name__ == "__main__":
    unittest.main()
