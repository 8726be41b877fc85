"""P1: a text is one message, or has its fault at the first place at which none goes on."""

import random
import unittest

from tests.helper import (LEAST, MOST, begun, fault_of, gone_on, in_cases, judge, language, last, put, run, show,
                          shown)

SAMPLES = (
    b"",
    b"a b|c#\x00\n\xff",
    b"\\\\\\{\\}\\[\\]\\#",
    b"{0}{9}{10}{15}x{1}",
    b"{1 group}{15 group}",
    b"{3 plural[other|]}",
    b"{3 plural[zero|0][one|1 #][two|2][few|\\#][many|{4}][other|# of {5 group}]}.",
    b"{3 plural[=5|][=0|a][=-12|b][=-9223372036854775808|c][=9223372036854775807|d][other|]}",
    b"{12 select[other|#]}{2 select[a|][_|b][abcdefghij-_0189|c][others|d][othe|e][other|{2}]}",
    b"{0 select[a|{1 plural[one|{2 select[b|#][other|\\]]}][other|]}][other|{3 plural[other|x]}]}",
)


def nested(depth, inner=b"", kind=b"plural"):
    return b"{0 " + kind + b"[other|" + (nested(depth - 1, inner, kind) if depth > 1 else inner) + b"]}"


def faults(texts):
    """Of each text the place of its fault, None if it is a message."""
    told = []
    for refusal, numbers, text in in_cases([judge(text) for text in texts]):
        told.append(None if refusal == 0 and len(numbers) == 3 else numbers[0] if refusal == -6 else refusal)
    return told


class Judged(unittest.TestCase):
    def check(self, places):
        self.assertEqual(dict(zip(places, faults(places))), places)

    def test_messages(self):
        self.check({sample: None for sample in SAMPLES})

    def test_what_is_named(self):
        self.assertEqual(last(judge("")), (0, [0, 0, 0], b""))
        self.assertEqual(last(judge("{0}{15}{0}")), (0, [32769, 0, 0], b""))
        self.assertEqual(last(judge("{3}{4 group}{5 plural[other|#]}{6 select[other|]}")), (0, [8, 48, 64], b""))
        self.assertEqual(last(judge("{3}{3 group}{3 select[other|]}")), (0, [8, 8, 8], b""))
        deep = "{1 plural[=1|{2}][other|{3 select[x|{4 group}#][other|{5}]}]}"
        self.assertEqual(last(judge(deep)), (0, [36, 18, 8], b""))

    def test_slots(self):
        self.check({b"{0}": None, b"{15}": None, b"{16}": 2, b"{00}": 2, b"{03}": 2, b"{20}": 2, b"{100}": 3,
                    b"{-1}": 1, b"{+1}": 1, b"{}": 1, b"{ 1}": 1, b"{1 }": 3, b"{1  group}": 3, b"{a}": 1,
                    b"{10": 3, b"{1": 2, b"{": 1, b"{150}": 3})

    def test_between_braces(self):
        self.check({b"{1 group }": 8, b"{1 Group}": 3, b"{1group}": 2, b"{1 grou}": 7, b"{1 plural}": 9,
                    b"{1 plural [other|]}": 9, b"{1 select}": 9, b"{1 plural[other|] }": 17,
                    b"{1 plural[other |]}": 15, b"{1 plural[ other|]}": 10, b"{1 plural[one|] [other|]}": 15,
                    b"{1 group[other|]}": 8, b"{1 plural[other|]": 17, b"{1 p": 4, b"{1 sp": 4})

    def test_specials(self):
        self.check({b"}": 0, b"a]": 1, b"[": 0, b"ab}c]": 2, b"\\": 1, b"\\a": 1, b"\\|": 1, b"\\\\}": 2,
                    b"{1 plural[other|}]}": 16, b"{1 plural[other|[]}": 16, b"{1 select[other|\\": 17,
                    b"{1 plural[other|]}]": 18, b"\\#": None, b"#|": None})

    def test_number_keys(self):
        start = b"{0 plural["
        end = b"|][other|]}"
        keys = {b"=%d" % LEAST: None, b"=%d" % MOST: None, b"=%d" % (LEAST - 1): 30, b"=%d" % (MOST + 1): 29,
                b"=0": None, b"=-0": 12, b"=00": 12, b"=05": 12, b"=-05": 12, b"=+5": 11, b"=": 11, b"=-": 12,
                b"=a": 11, b"=5 ": 12, b"=--5": 12, b"=10000000000000000000": 30, b"=99999999999999999999": 29,
                b"=1000000000000000000": None, b"=-9999999999999999999": 30, b"=5a": 12, b"": 10, b"onE": 12,
                b"ones": 13, b"o": 11, b"x": 10, b"5": 10, b"zero": None, b"few": None, b"fewer": 13, b"many": None,
                b"two": None, b"twelve": 12, b"on": 12, b"other": 17}
        self.check({start + key + end: place for key, place in keys.items()})

    def test_word_keys(self):
        start = b"{0 select["
        end = b"|][other|]}"
        keys = {b"a": None, b"z": None, b"0": None, b"9": None, b"_": None, b"-": None, b"a" * 16: None,
                b"a" * 17: 26, b"": 10, b"A": 10, b"=5": 10, b"a.": 11, b"a b": 11, b"othe": None, b"others": None,
                b"0ther": None, b"other": 17, b"one": None, b"other-other-othe": None, b"other-other-other": 26}
        self.check({start + key + end: place for key, place in keys.items()})

    def test_other_is_last_and_there(self):
        self.check({b"{0 plural[one|a]}": 16, b"{0 plural[other|a][one|b]}": 18, b"{0 select[a|]}": 13,
                    b"{0 plural[other|a][other|b]}": 18, b"{0 select[other|a][other|b]}": 18,
                    b"{0 plural[one|a][one|b][other|c]}": None, b"{0 select[a|1][a|2][other|c]}": None})

    def test_depth(self):
        for kind in (b"plural", b"select"):
            inner = len(b"{0 plural[other|") * 8
            self.check({nested(8, b"", kind): None, nested(9, b"", kind): inner + 3,
                        nested(8, b"{0}{1 group}\\#", kind): None, nested(8, b"{1 x", kind): inner + 3,
                        nested(8, b"", kind) + nested(8, b"", kind): None})
        self.check({nested(4, nested(4, b"", b"select")): None, nested(4, nested(5, b"", b"select")): 131,
                    nested(7, b"{0 select[a|{1}][b|][other|]}{1 plural[other|]}"): None})

    def test_length(self):
        self.assertEqual(last(judge("a" * 1024)), (0, [0, 0, 0], b""))
        self.assertEqual(last(judge("a" * 1025)), (-1, [], b""))
        self.assertEqual(last(judge("a" * 1023 + "{")), (-6, [1024], b""))
        told = run(language("a"), put("a", "k", "a" * 1024), put("a", "k", "b" * 1025), show("a", "k"))
        self.assertEqual(told[1:], [(0, [], b""), (-1, [], b""), (0, [0], b"a" * 1024)])
        many = "{0 plural" + "[=1|]" * 201 + "[other|]}"
        self.assertEqual(len(many), 1023)
        self.assertEqual(last(judge(many)), (0, [0, 1, 0], b""))

    def test_put_judges_likewise(self):
        texts = [sample[:cut] for sample in SAMPLES for cut in range(len(sample) + 1)]
        told = in_cases([language("a") + put("a", "k", text) for text in texts])
        told = [answer for answer in told if answer not in ((0, [], b""), (1, [], b""))]
        expected = [fault_of(text) for text in texts]
        self.assertEqual(told, [(-6, [place], b"") for place in expected if place is not None])


class AgainstTheGrammar(unittest.TestCase):
    def check_all(self, texts_and_faults):
        told = faults([text for text, fault in texts_and_faults])
        for (text, fault), answer in zip(texts_and_faults, told):
            self.assertEqual(answer, fault, text)

    def test_cut_anywhere(self):
        self.check_all([(sample[:cut], fault_of(sample[:cut]))
                        for sample in SAMPLES for cut in range(len(sample) + 1)])

    def test_spoilt_anywhere(self):
        # Short samples by every byte; the others by the bytes that mean something and by their neighbours.
        telling = b"\\{}[]#|=-_ 0123456789abcdefghijklmnopqrstuvwxyz" + b"\x00\xff!/:`~+.,AOZ^Y\"$"
        for sample in SAMPLES:
            checked = []
            stacks = begun()
            for place in range(len(sample)):
                for byte in range(256):
                    spoilt = sample[:place] + bytes([byte]) + sample[place + 1:]
                    later = gone_on(stacks, byte)
                    fault = fault_of(spoilt, later, place + 1) if later else place
                    if byte in telling or len(sample) < 60:
                        checked.append((spoilt, fault))
                stacks = gone_on(stacks, sample[place])
            self.check_all(checked)

    def test_a_byte_more_or_less(self):
        checked = []
        for sample in SAMPLES:
            for place in range(len(sample)):
                checked.append(sample[:place] + sample[place + 1:])
                checked.extend(sample[:place] + bytes([byte]) + sample[place:] for byte in b"\\{}[]|#= 05ao-")
        self.check_all([(text, fault_of(text)) for text in checked])

    def test_rows_of_pieces(self):
        chance = random.Random(1)
        pieces = [b"{", b"}", b"[", b"]", b"|", b"\\", b"#", b"{1}", b"{1 ", b"plural", b"select", b"group",
                  b"[other|", b"[one|", b"[=", b"-", b"0", b"7", b"92233720368547758", b"]}", b"x", b"{0 plural[other|",
                  b"{2 select[other|", b"{3 select[a|"]
        texts = [b"".join(chance.choice(pieces) for count in range(chance.randrange(1, 14))) for turn in range(4000)]
        self.check_all([(text, fault_of(text)) for text in texts])

    def test_every_depth_by_chance(self):
        chance = random.Random(2)
        texts = []
        for turn in range(300):
            text = b""
            for level in range(chance.randrange(6, 11)):
                text += chance.choice([b"{1 plural[other|", b"{1 plural[one|][=3|", b"{2 select[other|", b"{2 select[a|"])
                text += chance.choice([b"", b"{3}", b"{3 group}", b"{3 select[other|]}", b"{3 plural[other|#]}"])
            texts.append(text)
        self.check_all([(text, fault_of(text)) for text in texts])


class NumberSign(unittest.TestCase):
    def test_outside_it_is_a_byte(self):
        self.assertEqual(shown("#\\#"), (0, [0], b"##"))
        told = run(language("en"), put("en", "k", "{0 select[other|#]}"), [7, 0, 0], show("en", "k"))
        self.assertEqual(told[-1], (0, [0], b"#"))

    def test_within_it_is_the_number(self):
        self.assertEqual(shown("{0 plural[other|#\\##]}#", [6, 0, 1234]), (0, [0], b"1,234#1,234#"))

    def test_innermost_number(self):
        deep = "{0 plural[other|#{1 plural[other|#{2 select[other|#]}]}#]}#"
        self.assertEqual(shown(deep, [6, 0, 10], [6, 1, 20], [7, 2, 0]), (0, [0], b"10202010#"))
        deep = "{2 select[other|#{0 plural[other|{2 select[other|#{2 select[other|#]}]}]}#]}"
        self.assertEqual(shown(deep, [6, 0, -7], [7, 2, 0]), (0, [0], b"#-7-7#"))


if __name__ == "__main__":
    unittest.main()
