"""P8: refused, nothing is changed; and of several refusals the one told first counts."""

import unittest

from tests.helper import (LEAST, MOST, category, chain, clear, drop, judge, key, keys, lack, lacks, language, last,
                          load, number, odd, odds, put, rules, run, save, show, slots, text, wants, word)

TERM = (1, 1, 0, 0, 1, 1)
MESSAGE = "{0 plural[one|one][two|two][other|#]} {1} {2 select[a|A][other|O]}"
FULL_OF_MESSAGES = [put("full", "k%d" % count, str(count)) for count in range(48)]

# a falls back on b, b on c; full has 48 messages; all 12 languages are there.
STATE = (
    [language("c", "", "."), language("b", "c"), language("a", "b", ",")]
    + [language("full")] + FULL_OF_MESSAGES + [language("l%d" % count) for count in range(8)]
    + [rules("a", TERM), rules("c", (2, 1, 0, 0, 2, 2)), put("a", "own", MESSAGE), put("c", "far", MESSAGE),
       put("b", "wanting", "{7}{8 group}"), put("c", "wanting", "{7}"), number(0, 1), word(1, "w"), word(2, "a"),
       number(7, 1000)]
)

# Read first what can be read, then change what shows how many languages and messages there are.
PROBES = (
    [call(tag, key) for tag in ("a", "b", "c", "full", "l0", "new") for key in ("own", "far", "wanting", "k7", "new")
     for call in (show, wants, slots, text)]
    + [call(tag) for tag in ("a", "b", "c", "full", "new") for call in (keys, lacks, odds, chain)]
    + [key(0, "a"), lack(0, "a"), lack(1, "a"), lack(2, "a"), odd(0, "b"), save()]
    + [number(0, 2), show("a", "own"), show("a", "far"), number(0, 12345), show("a", "own"), show("a", "far")]
    + [put("full", "new", "x"), drop("full", "k7"), put("full", "new", "x"), put("full", "newer", "x")]
    + [language("new"), language("a"), show("a", "far"), clear(), wants("a", "own")]
    + [put("full", "k%d" % count, "again") for count in range(48)]
)

LONG = "a" * 1025

REFUSED = (
    # language
    (language("", "", ""), -1), (language("-", "b"), -1), (language("A"), -1), (language("a" * 13), -1),
    (language("a", "-b"), -1), (language("a", "B"), -1), (language("a", "b" * 13), -1),
    (language("a", "b", "12345"), -1), (language("new", "", "12345"), -1), (language("a", "new"), -3),
    (language("new", "new"), -3), (language("a", "a"), -5), (language("c", "a"), -5), (language("b", "a", "x"), -5),
    (language("new"), -9), (language("new", "a", "x"), -9),
    # language: which is told first
    (language("-", "new", "12345"), -1), (language("a", "-", "12345"), -1), (language("a", "new", "12345"), -1),
    (language("c", "a", "12345"), -1), (language("new", "", "12345"), -1), (language("new", "other"), -3),
    (language("new", "-"), -1),
    # rules
    (rules("", TERM), -1), (rules("A", TERM), -1), (rules("a", TERM[:5]), -1), (rules("a", *[TERM] * 33), -1),
    (rules("a", (6, 1, 0, 0, 1, 1)), -1), (rules("a", (1, 2, 0, 0, 1, 1)), -1), (rules("a", (1, 1, 2, 0, 1, 1)), -1),
    (rules("a", (1, 0, 0, 0, 1, 1)), -1), (rules("a", TERM, (1, 0, 0, 0, 1, 1)), -1), (rules("new", TERM), -3),
    (rules("new"), -3), (rules("new", TERM[:5]), -1), (rules("new", *[TERM] * 33), -1),
    (rules("new", (1, 0, 0, 0, 1, 1)), -1),
    # put
    (put("", "k", "x"), -1), (put("a", "", "x"), -1), (put("a", "K", "x"), -1), (put("a", "k" * 25, "x"), -1),
    (put("a", "own", LONG), -1), (put("a", "new", LONG), -1), (put("new", "k", "x"), -3), (put("full", "new", "x"), -9),
    (put("new", "K", "x"), -1), (put("-", "k", "x"), -1), (put("new", "k", LONG), -1), (put("new", "k", "}"), -3),
    (put("a", "own", LONG + "}"), -1), (put("a", "K", "}"), -1), (put("full", "new", LONG), -1),
    # drop
    (drop("", "k"), -1), (drop("a", ""), -1), (drop("a", "K"), -1), (drop("new", "k"), -3), (drop("new", "K"), -1),
    (drop("-", "k"), -1), (drop("a", "far"), -4), (drop("a", "new"), -4), (drop("c", "own"), -4),
    # judge
    (judge(LONG), -1), (judge("}" + LONG), -1),
    # number, word
    (number(16, 5), -1), (number(MOST, 5), -1), (number(0, MOST + 1), -1), (number(0, -MOST - 2), -1),
    (number(16, MOST + 1), -1), (word(16, "x"), -1), (word(MOST, "x"), -1), (word(1, "x" * 65), -1),
    (word(16, "x" * 65), -1),
    # show, wants, slots
    (show("", "own"), -1), (show("a", ""), -1), (show("new", "K"), -1), (show("new", "own"), -3),
    (show("b", "own"), -4), (wants("A", "own"), -1), (wants("a", "k" * 25), -1), (wants("new", "own"), -3),
    (wants("new", "K"), -1), (wants("l0", "wanting"), -4), (slots("-", "own"), -1), (slots("a", "O"), -1),
    (slots("new", "O"), -1), (slots("new", "own"), -3), (slots("full", "own"), -4),
    # text
    (text("", "own"), -1), (text("a", ""), -1), (text("a" * 13, "own"), -1), (text("a", "k" * 25), -1),
    (text("new", "K"), -1), (text("-", "own"), -1), (text("new", "own"), -3), (text("b", "own"), -4),
    (text("c", "k7"), -4),
    # category: the value first
    (category(MOST + 1, "a"), -1), (category(LEAST - 1, "a"), -1), (category(-2 ** 65, "a"), -1),
    (category(2 ** 65 - 1, "a"), -1), (category(MOST + 1, "new"), -1), (category(LEAST - 1, "new"), -1),
    (category(MOST + 1, "A"), -1), (category(1, ""), -1), (category(1, "A"), -1), (category(1, "new"), -3),
    (category(MOST, "new"), -3), (category(LEAST, "new"), -3),
    # keys, lacks, odds, and the i-th of each
    (keys(""), -1), (keys("-a"), -1), (keys("new"), -3), (lacks(""), -1), (lacks("a_"), -1), (lacks("new"), -3),
    (odds(""), -1), (odds("a" * 13), -1), (odds("new"), -3),
    (key(0, ""), -1), (key(MOST, "A"), -1), (key(0, "new"), -3), (key(MOST, "new"), -3), (key(1, "a"), -4),
    (key(48, "full"), -4), (key(MOST, "a"), -4), (key(0, "l0"), -4),
    (lack(0, ""), -1), (lack(MOST, "A"), -1), (lack(0, "new"), -3), (lack(MOST, "new"), -3), (lack(2, "a"), -4),
    (lack(0, "c"), -4), (lack(MOST, "a"), -4), (lack(0, "l0"), -4),
    (odd(0, ""), -1), (odd(MOST, "A"), -1), (odd(0, "new"), -3), (odd(MOST, "new"), -3), (odd(1, "b"), -4),
    (odd(0, "a"), -4), (odd(MOST, "b"), -4), (odd(0, "l0"), -4),
    # chain
    (chain(""), -1), (chain("a b"), -1), (chain("-"), -1), (chain("new"), -3),
)

# Refusals that have a row beside them.
REFUSED_AND_TOLD = (
    (put("a", "own", "ab}"), -6, 2), (put("a", "new", "{16}"), -6, 2), (put("a", "new", "{1"), -6, 2),
    (put("full", "new", "}"), -6, 0), (put("full", "k7", "{1 plural[one|]}"), -6, 15),
    (judge("a{"), -6, 2), (judge("]"), -6, 0), (judge("a" * 1023 + "]"), -6, 1023),
    (show("a", "wanting"), -7, 256), (show("b", "wanting"), -7, 256),
    (load(""), -6, 0), (load("say"), -6, 0), (load("say\n\n"), -6, 1), (load("say\nlanguage new - -\nx"), -6, 2),
    (load("say\nlanguage new - -\nlanguage a new 2C\n"), -6, 2), (load("say\nlanguage a new -\n"), -6, 2),
    (load("say\nlanguage a - -\nmessage own 1\n}\n"), -6, 2), (load("say\nlanguage a - -\nmessage own 1\nab\n"), -6, 2),
    (load("say\nlanguage a a -\nmessage own 1\n\n\n"), -6, 5), (load("say\nlanguage a - -\nrule 1 0 0 0 1 1\n"), -6, 3),
)


class Refusals(unittest.TestCase):
    def test_the_state_is_as_told(self):
        self.assertTrue(all(answer[0] >= 0 for answer in run(*STATE)))

    def test_each(self):
        for call, refusal in REFUSED:
            self.assertEqual(last(*STATE, call), (refusal, [], b""), call)

    def test_each_with_its_row(self):
        for call, refusal, told in REFUSED_AND_TOLD:
            self.assertEqual(last(*STATE, call), (refusal, [told], b""), call)

    def test_nothing_is_changed(self):
        before = run(*STATE, *PROBES)[len(STATE):]
        for call in [case[0] for case in REFUSED + REFUSED_AND_TOLD]:
            self.assertEqual(run(*STATE, call, *PROBES)[len(STATE) + 1:], before, call)

    def test_nothing_is_there_by_a_refused_call(self):
        told = run(language("-"), language("a", "b"), rules("a", TERM), put("a", "k", "x"), drop("a", "k"),
                   number(16, 1), word(16, ""), show("a", "k"), wants("a", "k"), slots("a", "k"),
                   load("say\nlanguage a - -\nx\n"), text("a", "k"), category(1, "a"), keys("a"), key(0, "a"),
                   lacks("a"), lack(0, "a"), odds("a"), odd(0, "a"), chain("a"), save(), language("a"))
        self.assertEqual([answer[0] for answer in told],
                         [-1, -3, -3, -3, -3, -1, -1, -3, -3, -3, -6] + [-3] * 9 + [0, 0])
        self.assertEqual(told[-2][2], b"say\n")

    def test_asking_changes_nothing(self):
        before = run(*STATE, *PROBES)[len(STATE):]
        asked = [show("a", "own"), wants("a", "own"), slots("a", "own"), text("a", "own"), category(1, "a"), keys("a"),
                 key(0, "a"), lacks("a"), lack(0, "a"), odds("b"), odd(0, "b"), chain("a"), save(), judge("x")]
        told = run(*STATE, *asked, *PROBES)[len(STATE):]
        self.assertTrue(all(answer[0] >= 0 for answer in told[:len(asked)]))
        self.assertEqual(told[len(asked):], before)

    def test_the_probes_see_changes(self):
        before = run(*STATE, *PROBES)[len(STATE):]
        changes = (language("a", "c", ","), language("a", "b", "."), language("c", "", "x"), rules("a"), rules("c"),
                   put("a", "new", "x"), put("a", "own", "x"), drop("a", "own"), drop("full", "k1"), number(0, 7),
                   number(8, 7), word(1, "x"), word(2, "x"), clear(), load("say\n"), load("say\nlanguage a - -\n"))
        for call in changes:
            self.assertTrue(run(*STATE, call, *PROBES)[len(STATE) + 1:] != before, call)


if __name__ == "__main__":
    unittest.main()
