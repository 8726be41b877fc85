"""P7: saved and loaded the languages are the same."""

import random
import unittest

from tests.helper import (answer_to_load, category, chain, clear, drop, key, keys, lack, lacks, language, last,
                          load, number, odd, odds, put, rules, run, save, show, slots, text, wants, word)

TERMS = ((1, 1, 0, 0, 1, 1), (0, 0, 0, 10, 2, 4), (3, 1, 1, 100, 12, 14))
FILES = "{0 plural[one|# file][few|# files!][other|# files]} {1}"

THREE_LANGUAGES = (
    language("en", "", ","), language("de-at"), language("de", "en", b"\x00\xff"), language("de-at", "de", "'"),
    rules("de", *TERMS), rules("en", (1, 1, 0, 0, 1, 1)), put("en", "files", FILES), put("de", "no", ""),
    put("en", "yes", "Yes\n"), put("en", "no", "No{2}"), put("de-at", "lines", "\n\n{3 select[a|\n][other|]}\n"),
    put("de", "files", "{0} {1 group}"),
)

THEIR_TEXT = b"""say
language en - 2c
rule 1 1 0 0 1 1
message files 55
{0 plural[one|# file][few|# files!][other|# files]} {1}
message no 5
No{2}
message yes 4
Yes

language de-at de 27
message lines 26


{3 select[a|
][other|]}

language de en 00ff
rule 1 1 0 0 1 1
rule 0 0 0 10 2 4
rule 3 1 1 100 12 14
message files 13
{0} {1 group}
message no 0

"""


def longest():
    return ("\n{3 group}" * 102 + "abc\n")


def kits():
    """Kits of all sizes, each as the calls that make it."""
    return {
        "no language": [],
        "one language, with nothing": [language("a")],
        "three languages": list(THREE_LANGUAGES),
        "separators": [language("l%d" % count, "", [0, 255, 10, 32][:count]) for count in range(5)],
        "a message of 1,024 bytes": [language("a"), put("a", "k", longest()), put("a", "l", "")],
        "48 messages": [language("a")] + [put("a", "k%d" % count, "%d\n" % count) for count in range(48)],
        "32 rules": [language("a"), rules("a", *[(place % 6, place % 2, place % 3 % 2, place, 2 ** 32 - 1, 9 * place)
                                                 for place in range(32)])],
        "12 languages": [language("x" * 11 + sign) for sign in "abcdefghijkl"],
        "12 languages on one way": [language("l%d" % place, "l%d" % (place - 1) if place else "")
                                    for place in range(12)] + [put("l0", "k", "x"), put("l7", "k", "{0}")],
        "a later one to fall back on": [language("a"), language("b"), language("c"), language("a", "c"),
                                        language("c", "b"), put("b", "k", "b"), put("c", "l", "{1}")],
    }


# What is asked first can be asked of any kit; then it is changed and asked again.
ASKED = (
    [call(tag) for tag in ("en", "de", "de-at", "a", "l1", "l11") for call in (keys, lacks, odds, chain)]
    + [call(place, tag) for tag in ("en", "de", "a") for place in (0, 1) for call in (key, lack, odd)]
    + [call(tag, name) for tag in ("en", "de-at", "a") for name in ("files", "no", "lines", "k")
       for call in (text, slots, wants, show)]
    + [category(value, tag) for value in (-1, 0, 3, 13, 31) for tag in ("en", "de", "a")]
)
GOES_ON = (
    [number(0, 31234), word(1, "x"), word(3, "a")] + ASKED
    + [language("a", "l1"), language("de", "de-at"), language("new", "de"), language("a", "new", "."), save()]
    + [put("a", "k", "{5}"), put("a", "j", "!"), put("de", "more", "{1 plural[few|x][other|y]}"), drop("de", "no"),
       drop("a", "k7"), rules("de", (2, 1, 0, 0, 3, 3)), save()]
    + [put("a", "m%d" % count, "") for count in range(49)] + [language("n%d" % count, "a") for count in range(12)]
    + ASKED + [save()]
)


class Saved(unittest.TestCase):
    def saved(self, *calls):
        answer, numbers, told = last(*calls, save())
        self.assertEqual((answer, numbers), (0, []))
        return told

    def test_no_language(self):
        self.assertEqual(run(save()), [(0, [], b"say\n")])

    def test_written_out(self):
        self.assertEqual(self.saved(*THREE_LANGUAGES), THEIR_TEXT)

    def test_one_language(self):
        self.assertEqual(self.saved(language("a")), b"say\nlanguage a - -\n")
        self.assertEqual(self.saved(language("0-"), language("a", "0-")), b"say\nlanguage 0- - -\nlanguage a 0- -\n")

    def test_separators(self):
        for byte in range(256):
            self.assertEqual(self.saved(language("a", "", [byte])), b"say\nlanguage a - %02x\n" % byte)
        self.assertEqual(self.saved(language("a", "", [0, 255, 10, 171])), b"say\nlanguage a - 00ff0aab\n")

    def test_rules(self):
        told = self.saved(language("a"), rules("a", (5, 0, 1, 0, 10, 4294967295), (0, 1, 0, 100, 7, 0)))
        self.assertEqual(told, b"say\nlanguage a - -\nrule 5 0 1 0 10 4294967295\nrule 0 1 0 100 7 0\n")

    def test_messages(self):
        told = self.saved(language("a"), put("a", "k", "a" * 100), put("a", "j", "\n"), put("a", "z", ""))
        self.assertEqual(told, b"say\nlanguage a - -\nmessage j 1\n\n\nmessage k 100\n" + b"a" * 100
                         + b"\nmessage z 0\n\n")

    def test_bytes_of_a_message_stay(self):
        message = bytes(byte for byte in range(256) if byte not in b"\\{}[]") + b"\\{\\#{0 plural[=0|#\\]][other|\\#]}"
        told = self.saved(language("a"), put("a", "k", message))
        self.assertEqual(told, b"say\nlanguage a - -\nmessage k %d\n%s\n" % (len(message), message))

    def test_keys_in_order(self):
        names = ["b", "a.", "a", "aa", "a-", "a_", "a0", "-", ".", "_", "0", "z" * 24, "z" * 23, "a9"]
        told = self.saved(language("a"), *[put("a", name, "") for name in names])
        expected = ["-", ".", "0", "_", "a", "a-", "a.", "a0", "a9", "a_", "aa", "b", "z" * 23, "z" * 24]
        self.assertEqual(told.decode(), "say\nlanguage a - -\n"
                         + "".join("message %s 0\n\n" % name for name in expected))

    def test_languages_in_the_order_in_which_they_came(self):
        told = self.saved(language("b"), language("a"), language("c"), language("b", "c"), rules("a"),
                          put("c", "k", "x"), put("b", "k", "x"))
        self.assertEqual(told, b"say\nlanguage b c -\nmessage k 1\nx\nlanguage a - -\nlanguage c - -\nmessage k 1\nx\n")

    def test_what_is_not_there_any_more(self):
        told = self.saved(language("a", "", ","), rules("a", *TERMS), put("a", "k", "x"), put("a", "j", "y"),
                          drop("a", "k"), put("a", "j", "z"), rules("a"), language("a"))
        self.assertEqual(told, b"say\nlanguage a - -\nmessage j 1\nz\n")

    def test_arguments_are_not_saved(self):
        self.assertEqual(self.saved(*THREE_LANGUAGES, number(0, 5), word(1, "x")), THEIR_TEXT)
        self.assertEqual(self.saved(number(0, 5), word(1, "x"), clear()), b"say\n")

    def test_saving_changes_nothing(self):
        told = run(*THREE_LANGUAGES, save(), save(), *GOES_ON)[len(THREE_LANGUAGES):]
        self.assertEqual(told[0], told[1])
        self.assertEqual(told[2:], run(*THREE_LANGUAGES, *GOES_ON)[len(THREE_LANGUAGES):])


class Loaded(unittest.TestCase):
    def test_how_many(self):
        for told, count in ((b"say\n", 0), (b"say\nlanguage a - -\n", 1), (THEIR_TEXT, 3)):
            self.assertEqual(run(load(told)), [(count, [], b"")])

    def test_the_kits_are_made(self):
        for name, calls in kits().items():
            self.assertTrue(all(answer[0] >= 0 for answer in run(*calls)), name)

    def test_saved_loaded_and_saved_once_more(self):
        for name, calls in kits().items():
            told = last(*calls, save())[2]
            after = [(told.count(b"\nlanguage "), [], b""), (0, [], told)]
            self.assertEqual(answer_to_load(told), after[0], name)
            self.assertEqual(run(load(told), save()), after, name)
            self.assertEqual(run(*THREE_LANGUAGES, load(told), save())[-2:], after, name)

    def test_loaded_it_goes_on_as_if_put_there(self):
        for name, calls in kits().items():
            told = last(*calls, save())[2]
            after = run(*calls, *GOES_ON)[len(calls):]
            self.assertEqual(run(load(told), *GOES_ON)[1:], after, name)
            self.assertEqual(run(*calls, load(told), *GOES_ON)[len(calls) + 1:], after, name)

    def test_loaded_in_the_place_of_what_was_there(self):
        told = run(*THREE_LANGUAGES, load("say\nlanguage x - -\n"), keys("en"), chain("x"), load("say\n"), chain("x"),
                   save())[len(THREE_LANGUAGES):]
        self.assertEqual(told, [(1, [], b""), (-3, [], b""), (1, [], b"x"), (0, [], b""), (-3, [], b""),
                                (0, [], b"say\n")])

    def test_twelve_in_the_place_of_twelve(self):
        twelve = [language("l%d" % count) for count in range(12)]
        other = "say\n" + "".join("language x%d - -\n" % count for count in range(12))
        self.assertEqual([answer[0] for answer in run(*twelve, load(other), language("l0"), language("x3"))][12:],
                         [12, -9, 1])

    def test_arguments_stay(self):
        told = run(number(0, 1), word(1, "/tmp"), load(THEIR_TEXT), show("en", "files"), wants("en", "no"),
                   load("x"), show("en", "files"), load("say\n"), load(THEIR_TEXT), show("en", "files"))
        self.assertEqual(told[3:5], [(0, [0], b"1 file /tmp"), (4, [], b"")])
        self.assertEqual([told[6], told[9]], [told[3]] * 2)

    def test_shown_by_what_was_loaded(self):
        told = run(load(THEIR_TEXT), number(0, 1234), word(1, "x"), show("en", "files"), show("de-at", "yes"),
                   show("de-at", "no"), text("de-at", "lines"), category(3, "de"), category(13, "de"), chain("de-at"))
        self.assertEqual(told[3:], [(0, [0], b"1,234 files x"), (0, [2], b"Yes\n"), (0, [1], b""),
                                    (0, [], b"\n\n{3 select[a|\n][other|]}\n"), (3, [], b""), (5, [], b""),
                                    (3, [], b"de-at de en")])

    def test_a_later_one_to_fall_back_on(self):
        told = run(load("say\nlanguage a b -\nlanguage b c -\nlanguage c - -\nmessage k 1\nx\n"), text("a", "k"),
                   chain("a"), language("c", "a"), lack(0, "b"))
        self.assertEqual(told, [(3, [], b""), (2, [], b"x"), (3, [], b"a b c"), (-5, [], b""), (0, [], b"k")])

    def test_ways_of_twelve(self):
        lines = ["language l%d %s -\n" % (place, "l%d" % (place + 1) if place < 11 else "-") for place in range(12)]
        for order in (lines, lines[::-1], lines[5:] + lines[:5]):
            self.assertEqual(run(load("say\n" + "".join(order)), chain("l0"), chain("l11")),
                             [(12, [], b""), (12, [], " ".join("l%d" % place for place in range(12)).encode()),
                              (1, [], b"l11")])

    def test_the_limits(self):
        rule = "rule 1 1 0 0 1 1\n"
        for told in ("language a - -\n" + rule * 32,
                     "language a - -\n" + "".join("message %02d 0\n\n" % count for count in range(48)),
                     "".join("language %d - -\n" % count for count in range(12)),
                     "language a - -\nmessage k 1024\n" + "a" * 1024 + "\n",
                     "language abcdefghijkl - 00112233\nmessage " + "k" * 24 + " 0\n\n",
                     "language a - -\nrule 5 1 1 4294967295 4294967295 4294967295\n",
                     "language a - -\n" + "rule 0 0 0 0 0 0\n" * 31 + rule):
            told = "say\n" + told
            self.assertEqual(run(load(told), save())[1], (0, [], told.encode()))


class ByChance(unittest.TestCase):
    def calls(self, chance):
        tags = ["a", "b", "c-1", "d"]
        made = []
        for count in range(chance.randrange(1, 40)):
            tag = chance.choice(tags)
            made.append(chance.choice([
                language(tag, chance.choice([""] + tags),
                         [chance.randrange(256) for byte in range(chance.randrange(6))]),
                rules(tag, *[(chance.randrange(6), 1, chance.randrange(2), chance.choice([0, 10, 2 ** 32 - 1]), 1, 20)
                             for term in range(chance.randrange(4))]),
                put(tag, chance.choice(["k", "k.", "k1", "a_b"]),
                    chance.choice(["", "\n", "{1}\n", "message k 3\nabc\n", "{0 plural[=1|\n][other|#]}", "{"])),
                drop(tag, chance.choice(["k", "k."])),
            ]))
        return made

    def test_any_kit(self):
        chance = random.Random(7)
        for turn in range(300):
            calls = self.calls(chance)
            told = last(*calls, save())[2]
            self.assertGreaterEqual(answer_to_load(told)[0], 0)
            asked = [call(tag) for tag in ("a", "b", "c-1", "d") for call in (keys, lacks, odds, chain)]
            more = self.calls(chance)
            before = run(*calls, *asked, save(), *more, save(), *asked)[len(calls):]
            self.assertEqual(run(load(told), *asked, save(), *more, save(), *asked)[1:], before)


if __name__ == "__main__":
    unittest.main()
