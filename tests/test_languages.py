"""P5: ways never come round; a key's message is the first on the way."""

import unittest

from tests.helper import (chain, drop, language, last, load, number, put, rules, run, show, slots, text, wants,
                          word)

TAGS = ["l%d" % count for count in range(12)]


def row_of_languages(count):
    """Each falls back on the one before it."""
    return [language(tag, TAGS[place - 1] if place else "") for place, tag in enumerate(TAGS[:count])]


def numbers(told):
    return [answer[0] for answer in told]


class Tags(unittest.TestCase):
    def test_tags(self):
        for tag in ("a", "z", "0", "9", "a-", "en-gb", "9-9", "a" * 12, "abcdefghijk-"):
            self.assertEqual(run(language(tag)), [(0, [], b"")], tag)
        for tag in ("", "a" * 13, "a" * 100, "-", "-a", "A", "a_b", "a.b", "a b", "a\x00", "\xe4", "{", "`", ":", "/"):
            self.assertEqual(run(language(tag)), [(-1, [], b"")], tag)
            self.assertEqual(run(language("a"), language("b", tag))[1], (0 if tag == "" else -1, [], b""), tag)

    def test_keys(self):
        for key in ("a", "z", "0", "9", "_", "-", ".", "a" * 24, "-._", "copy.done_1-2"):
            told = run(language("a"), put("a", key, "x"), show("a", key), drop("a", key))
            self.assertEqual(told[1:], [(0, [], b""), (0, [0], b"x"), (0, [], b"")], key)
        for key in ("", "a" * 25, "a" * 100, "A", "a b", "a/b", "a\x00", "\xe4", "[", "`", "a,b"):
            told = run(language("a"), put("a", key, "x"), show("a", key), drop("a", key), wants("a", key),
                       slots("a", key))
            self.assertEqual(told[1:], [(-1, [], b"")] * 5, key)

    def test_separators(self):
        for length in range(5):
            self.assertEqual(run(language("a", "", b"\x00" * length)), [(0, [], b"")])
        for length in (5, 6, 100):
            self.assertEqual(run(language("a", "", "," * length)), [(-1, [], b"")])

    def test_twice(self):
        self.assertEqual(numbers(run(language("a"), language("a"), language("ab"), language("a", "ab"))), [0, 1, 0, 1])

    def test_new_without_rules_and_messages(self):
        told = run(language("a"), put("a", "k", "x"), rules("a", (1, 1, 0, 0, 1, 1)), language("b"), show("b", "k"),
                   put("b", "k", "{0 plural[one|no][other|yes]}"), number(0, 1), show("b", "k"))
        self.assertEqual(told[4], (-4, [], b""))
        self.assertEqual(told[7], (0, [0], b"yes"))

    def test_messages_stay_when_told_again(self):
        told = run(language("a"), put("a", "k", "x"), language("a", "", "."), show("a", "k"), language("b"),
                   language("a", "b"), show("a", "k"))
        self.assertEqual((told[3], told[6]), ((0, [0], b"x"), (0, [0], b"x")))

    def test_12_and_a_13th(self):
        told = run(*[language(tag) for tag in TAGS], language("more"), language(TAGS[3], TAGS[4]), language("more"),
                   show("more", "k"))
        self.assertEqual(numbers(told), [0] * 12 + [-9, 1, -9, -3])

    def test_48_and_a_49th(self):
        puts = [put("a", "k%d" % count, str(count)) for count in range(48)]
        told = run(language("a"), language("b"), *puts, put("a", "more", "x"), put("a", "k7", "new"), show("a", "k7"),
                   put("b", "more", "x"), drop("a", "k3"), put("a", "more", "x"), put("a", "k3", "x"))
        self.assertEqual(numbers(told), [0] * 50 + [-9, 1, 0, 0, 0, 0, -9])
        self.assertEqual(told[52], (0, [0], b"new"))


class Ways(unittest.TestCase):
    def test_first_on_the_way(self):
        base = [language("a"), language("b", "a"), language("c", "b"), put("a", "k", "{0}{1 group}")]
        self.assertEqual(run(*base, slots("a", "k"), slots("b", "k"), slots("c", "k"))[4:],
                         [(0, [1, 2, 0], b""), (1, [1, 2, 0], b""), (2, [1, 2, 0], b"")])
        told = run(*base, put("b", "k", "b"), show("a", "k"), show("b", "k"), show("c", "k"), wants("a", "k"),
                   wants("c", "k"), drop("b", "k"), wants("c", "k"))
        self.assertEqual(told[5:], [(-7, [3], b""), (0, [0], b"b"), (0, [1], b"b"), (3, [], b""), (0, [], b""),
                                    (0, [], b""), (3, [], b"")])

    def test_no_way_backwards(self):
        told = run(language("a"), language("b", "a"), language("c", "a"), put("b", "k", "b"), show("a", "k"),
                   show("c", "k"), wants("a", "k"), slots("c", "k"))
        self.assertEqual(told[4:], [(-4, [], b"")] * 4)

    def test_all_12(self):
        for owner in range(12):
            told = run(*row_of_languages(12), put(TAGS[owner], "k", "x"), *[show(tag, "k") for tag in TAGS])
            for asked, answer in enumerate(told[13:]):
                self.assertEqual(answer, (0, [asked - owner], b"x") if asked >= owner else (-4, [], b""))

    def test_rules_and_separator_of_the_language_that_has_it(self):
        base = [language("a", "", "."), rules("a", (1, 1, 0, 0, 1, 1)), language("b", "a", ","),
                rules("b", (1, 1, 0, 0, 2, 2)), put("a", "k", "{0 plural[one|one][other|#]}"), number(0, 1)]
        self.assertEqual(run(*base, show("a", "k"), show("b", "k"))[6:], [(0, [0], b"one"), (0, [1], b"one")])
        self.assertEqual(last(*base, number(0, 2000), show("b", "k")), (0, [1], b"2.000"))
        self.assertEqual(last(*base, put("b", "k", "{0 plural[one|one][other|#]}"), show("b", "k")), (0, [0], b"1"))
        self.assertEqual(last(*base, put("b", "k", "{0 group}"), number(0, 2000), show("b", "k")), (0, [0], b"2,000"))

    def test_another_to_fall_back_on(self):
        told = run(language("a"), language("b"), language("c", "a"), put("a", "k", "a"), put("b", "k", "b"),
                   show("c", "k"), language("c", "b"), show("c", "k"), language("c"), show("c", "k"))
        self.assertEqual(told[5:], [(0, [1], b"a"), (1, [], b""), (0, [1], b"b"), (1, [], b""), (-4, [], b"")])

    def test_none_to_fall_back_on(self):
        told = run(language("a", "b"), language("a", "a"), language("a"), language("a", "b"), language("b", "a"))
        self.assertEqual(numbers(told), [-3, -3, 0, -3, 0])

    def test_round_in_one_step(self):
        self.assertEqual(numbers(run(language("a"), language("a", "a"))), [0, -5])

    def test_round_in_several(self):
        for count in range(2, 13):
            for start in range(count):
                for end in range(count):
                    answer = last(*row_of_languages(count), language(TAGS[start], TAGS[end]))
                    self.assertEqual(answer, (-5 if end >= start else 1, [], b""))

    def test_opened_again(self):
        told = run(*row_of_languages(4), language("l0", "l3"), language("l2"), language("l0", "l3"),
                   language("l2", "l1"), language("l2", "l0"), put("l2", "k", "x"), show("l1", "k"), show("l2", "k"))
        self.assertEqual(numbers(told), [0, 0, 0, 0, -5, 1, 1, -5, -5, 0, 0, 0])
        self.assertEqual(told[-2], (0, [3], b"x"))

    def test_arguments_are_of_the_kit(self):
        told = run(language("a"), language("b"), put("a", "k", "{0}"), put("b", "k", "<{0}>"), word(0, "x"),
                   show("a", "k"), show("b", "k"))
        self.assertEqual(told[5:], [(0, [0], b"x"), (0, [0], b"<x>")])


class Texts(unittest.TestCase):
    def test_as_it_was_put(self):
        for message in ("", "x", "\n", "{0}", "\\#\\{{3 plural[=1|#][few|{2}][other|\\#]}", bytes(range(91)),
                        "a" * 1024):
            told = message if isinstance(message, bytes) else message.encode()
            self.assertEqual(last(language("a"), put("a", "k", message), text("a", "k")), (0, [], told))

    def test_arguments_do_not_matter(self):
        told = run(language("a"), put("a", "k", "{0}{1 group}"), text("a", "k"), word(0, "x"), text("a", "k"))
        self.assertEqual((told[2], told[4]), ((0, [], b"{0}{1 group}"),) * 2)

    def test_first_on_the_way(self):
        base = [language("a"), language("b", "a"), language("c", "b"), put("a", "k", "{0}"), put("b", "j", "b"),
                put("a", "j", "a")]
        told = run(*base, text("a", "k"), text("b", "k"), text("c", "k"), text("a", "j"), text("b", "j"),
                   text("c", "j"), text("c", "i"), drop("b", "j"), text("c", "j"), put("c", "j", "c"), text("c", "j"), text("b", "j"))
        self.assertEqual(told[6:], [(0, [], b"{0}"), (1, [], b"{0}"), (2, [], b"{0}"), (0, [], b"a"), (0, [], b"b"),
                                    (1, [], b"b"), (-4, [], b""), (0, [], b""), (2, [], b"a"), (0, [], b""),
                                    (0, [], b"c"), (1, [], b"a")])

    def test_all_12(self):
        for owner in range(12):
            told = run(*row_of_languages(12), put(TAGS[owner], "k", "{1}"), *[text(tag, "k") for tag in TAGS])
            for asked, answer in enumerate(told[13:]):
                self.assertEqual(answer, (asked - owner, [], b"{1}") if asked >= owner else (-4, [], b""))


class Chains(unittest.TestCase):
    def test_of_1_to_12(self):
        for count in range(1, 13):
            told = run(*row_of_languages(12), chain(TAGS[count - 1]))[-1]
            self.assertEqual(told, (count, [], " ".join(TAGS[:count][::-1]).encode()))

    def test_as_it_is_now(self):
        told = run(language("a"), chain("a"), language("b-2", "a"), chain("b-2"), chain("a"), language("c"),
                   language("a", "c"), chain("b-2"), language("a", "b-2"), chain("b-2"), language("a"), chain("b-2"),
                   language("b-2"), chain("b-2"), chain("x"))
        self.assertEqual([told[place] for place in (1, 3, 4, 7, 9, 11, 13, 14)],
                         [(1, [], b"a"), (2, [], b"b-2 a"), (1, [], b"a"), (3, [], b"b-2 a c"), (3, [], b"b-2 a c"),
                          (2, [], b"b-2 a"), (1, [], b"b-2"), (-3, [], b"")])

    def test_of_what_was_loaded(self):
        told = run(load("say\nlanguage a c -\nlanguage b - -\nlanguage c b -\n"), chain("a"), chain("b"), chain("c"),
                   language("b", "a"), language("b", "c"), language("d", "a"), chain("d"))
        self.assertEqual(told, [(3, [], b""), (3, [], b"a c b"), (1, [], b"b"), (2, [], b"c b"), (-5, [], b""),
                                (-5, [], b""), (0, [], b""), (4, [], b"d a c b")])

    def test_a_loaded_text_whose_ways_come_round(self):
        for count in range(1, 13):
            for target in range(count):
                lines = ["language l%d l%d -\n" % (place, place + 1) for place in range(count - 1)]
                lines.append("language l%d l%d -\n" % (count - 1, target))
                for order in (lines, lines[::-1]):
                    told = run(language("a"), load("say\n" + "".join(order)), chain("l0"), chain("a"))
                    self.assertEqual(told[1:], [(-6, [count + 1], b""), (-3, [], b""), (1, [], b"a")])


if __name__ == "__main__":
    unittest.main()
