"""The interface: how calls are handed in and how the answers are laid out, as whole lists."""

import random
import unittest

from saymessages.kit import answers
from tests.helper import (category, chain, clear, drop, judge, key, keys, lack, lacks, language, load, number, odd,
                          odds, put, rules, save, show, slots, text, wants, word)

A = 97
B = 98
K = 107
SAVED = b"say\nlanguage a - 2c\nrule 1 1 0 0 1 1\nmessage k 3\n{0}\nlanguage b a -\nmessage k 9\n{1 group}\n"


def flat(*calls):
    return [one for call in calls for one in call]


def all_calls():
    return flat(language("a", "", ","), language("b", "a"), rules("a", (1, 1, 0, 0, 1, 1)), put("a", "k", "{0}"),
                put("b", "k", "{1 group}"), put("b", "j", "x"), clear(), judge("{1}{0 select[other|]}"), number(0, 1),
                word(1, "y"), show("b", "k"), wants("b", "k"), slots("b", "k"), text("b", "k"), category(-1, "a"),
                keys("b"), key(0, "b"), lacks("b"), lack(0, "b"), odds("b"), odd(0, "b"), chain("b"), drop("b", "j"),
                save(), load("say\nlanguage c - -\n"), chain("b"), load(SAVED), number(0, 7), drop("b", "k"),
                show("b", "k"), clear(), show("b", "k"))


class WholeLists(unittest.TestCase):
    def test_language(self):
        self.assertEqual(answers([1, 1, A, 0, 0]), [3, 0, 0, 0])
        self.assertEqual(answers([1, 1, A, 0, 1, 44, 1, 2, A, A, 1, A, 0, 1, 1, A, 0, 0]),
                         [3, 0, 0, 0, 3, 0, 0, 0, 3, 1, 0, 0])
        self.assertEqual(answers([1, 0, 0, 0]), [3, -1, 0, 0])

    def test_rules(self):
        self.assertEqual(answers([1, 1, A, 0, 0, 2, 1, A, 12, 1, 1, 0, 0, 1, 1, 2, 1, 0, 0, 2, 2]),
                         [3, 0, 0, 0, 3, 2, 0, 0])
        self.assertEqual(answers([2, 1, A, 0]), [3, -3, 0, 0])

    def test_put_show_drop(self):
        calls = [1, 1, A, 0, 0, 3, 1, A, 1, K, 2, 104, 105, 9, 1, A, 1, K, 4, 1, A, 1, K, 9, 1, A, 1, K]
        self.assertEqual(answers(calls), [3, 0, 0, 0, 3, 0, 0, 0, 6, 0, 1, 0, 2, 104, 105, 3, 0, 0, 0, 3, -4, 0, 0])

    def test_put_refused(self):
        self.assertEqual(answers([1, 1, A, 0, 0, 3, 1, A, 1, K, 2, A, 125]), [3, 0, 0, 0, 4, -6, 1, 1, 0])

    def test_judge(self):
        self.assertEqual(answers([5, 0]), [6, 0, 3, 0, 0, 0, 0])
        self.assertEqual(answers([5, 3, 123, 51, 125]), [6, 0, 3, 8, 0, 0, 0])
        self.assertEqual(answers([5, 2, 123, 51]), [4, -6, 1, 2, 0])
        self.assertEqual(answers([5, 1025] + [A] * 1025), [3, -1, 0, 0])

    def test_number_word_clear(self):
        self.assertEqual(answers([6, 0, -5]), [3, 0, 0, 0])
        self.assertEqual(answers([7, 15, 0]), [3, 0, 0, 0])
        self.assertEqual(answers([7, 15, 2, 0, 255]), [3, 0, 0, 0])
        self.assertEqual(answers([8]), [3, 0, 0, 0])
        self.assertEqual(answers([8, 6, 16, 0, 8]), [3, 0, 0, 0, 3, -1, 0, 0, 3, 0, 0, 0])

    def test_wants_and_slots(self):
        message = list(b"{0}{5 group}")
        base = [1, 1, A, 0, 0, 3, 1, A, 1, K, len(message)] + message + [6, 0, 7]
        self.assertEqual(answers(base + [10, 1, A, 1, K, 11, 1, A, 1, K, 9, 1, A, 1, K]),
                         [3, 0, 0, 0] * 3 + [3, 32, 0, 0, 6, 0, 3, 1, 32, 0, 0, 4, -7, 1, 32, 0])

    def test_further_on_the_way(self):
        calls = flat(language("a"), language("b", "a"), put("a", "k", "{3}"), word(3, "!"), show("b", "k"),
                     slots("b", "k"), wants("b", "k"))
        self.assertEqual(answers(calls)[16:], [5, 0, 1, 1, 1, 33, 6, 1, 3, 8, 0, 0, 0, 3, 0, 0, 0])

    def test_an_example(self):
        message = "{0 plural[one|# file was][other|# files were]} copied to {1}"
        calls = flat(language("en", "", ","), rules("en", (1, 1, 0, 0, 1, 1)), put("en", "copied", message),
                     number(0, 1200), word(1, "/tmp"), show("en", "copied"))
        told = b"1,200 files were copied to /tmp"
        self.assertEqual(answers(calls), [3, 0, 0, 0, 3, 1, 0, 0] + [3, 0, 0, 0] * 3
                         + [4 + len(told), 0, 1, 0, len(told)] + list(told))

    def test_text(self):
        base = [1, 1, A, 0, 0, 1, 1, B, 1, A, 0, 3, 1, A, 1, K, 3, 123, 51, 125]
        self.assertEqual(answers(base + [12, 1, A, 1, K, 12, 1, B, 1, K, 12, 1, B, 1, A]),
                         [3, 0, 0, 0] * 3 + [6, 0, 0, 3, 123, 51, 125, 6, 1, 0, 3, 123, 51, 125, 3, -4, 0, 0])

    def test_category(self):
        base = [1, 1, A, 0, 0, 2, 1, A, 6, 3, 1, 0, 0, 7, 7]
        self.assertEqual(answers(base + [13, -7, 1, A, 13, 8, 1, A, 13, 2 ** 63, 1, A, 13, 0, 1, B]),
                         [3, 0, 0, 0, 3, 1, 0, 0, 3, 3, 0, 0, 3, 5, 0, 0, 3, -1, 0, 0, 3, -3, 0, 0])

    def test_keys_and_key(self):
        base = [1, 1, A, 0, 0, 3, 1, A, 2, K, K, 0, 3, 1, A, 1, K, 0]
        self.assertEqual(answers(base + [14, 1, A, 15, 0, 1, A, 15, 1, 1, A, 15, 2, 1, A, 14, 1, B]),
                         [3, 0, 0, 0] * 3 + [3, 2, 0, 0, 4, 0, 0, 1, K, 5, 0, 0, 2, K, K, 3, -4, 0, 0, 3, -3, 0, 0])

    def test_lacks_and_lack(self):
        base = [1, 1, A, 0, 0, 1, 1, B, 1, A, 0, 3, 1, A, 1, K, 0]
        self.assertEqual(answers(base + [16, 1, B, 17, 0, 1, B, 17, 1, 1, B, 16, 1, A, 17, 0, 1, A]),
                         [3, 0, 0, 0] * 3 + [3, 1, 0, 0, 4, 0, 0, 1, K, 3, -4, 0, 0, 3, 0, 0, 0, 3, -4, 0, 0])

    def test_odds_and_odd(self):
        base = [1, 1, A, 0, 0, 1, 1, B, 1, A, 0, 3, 1, A, 1, K, 0, 3, 1, B, 1, K, 3, 123, 51, 125]
        self.assertEqual(answers(base + [18, 1, B, 19, 0, 1, B, 19, 1, 1, B, 18, 1, A, 19, 2 ** 63 - 1, 1, A]),
                         [3, 0, 0, 0] * 4 + [3, 1, 0, 0, 4, 0, 0, 1, K, 3, -4, 0, 0, 3, 0, 0, 0, 3, -4, 0, 0])

    def test_chain(self):
        self.assertEqual(answers([1, 1, A, 0, 0, 1, 2, B, B, 1, A, 0, 20, 2, B, B, 20, 1, A, 20, 1, B]),
                         [3, 0, 0, 0] * 2 + [7, 2, 0, 4, B, B, 32, A, 4, 1, 0, 1, A, 3, -3, 0, 0])

    def test_save_and_load(self):
        say = list(b"say\n")
        told = list(b"say\nlanguage a - -\n")
        self.assertEqual(answers([21]), [7, 0, 0, 4] + say)
        self.assertEqual(answers([1, 1, A, 0, 0, 21]), [3, 0, 0, 0, 22, 0, 0, 19] + told)
        self.assertEqual(answers([22, 19] + told + [21, 22, 4] + say + [21]),
                         [3, 1, 0, 0, 22, 0, 0, 19] + told + [3, 0, 0, 0, 7, 0, 0, 4] + say)
        self.assertEqual(answers([22, 0, 22, 5] + say + [10, 22, 3] + say[:3]),
                         [4, -6, 1, 0, 0, 4, -6, 1, 1, 0, 4, -6, 1, 0, 0])

    def test_all_calls_in_one_list(self):
        zero = [3, 0, 0, 0]
        self.assertEqual(answers(all_calls()), zero * 2 + [3, 1, 0, 0] + zero * 4 + [6, 0, 3, 2, 0, 1, 0] + zero * 2
                         + [4, -7, 1, 2, 0, 3, 2, 0, 0, 6, 0, 3, 0, 2, 0, 0, 12, 0, 0, 9] + list(b"{1 group}")
                         + [3, 1, 0, 0, 3, 2, 0, 0, 4, 0, 0, 1, 106] + zero + [3, -4, 0, 0, 3, 1, 0, 0, 4, 0, 0, 1, 107]
                         + [6, 2, 0, 3, 98, 32, 97] + zero + [3 + len(SAVED), 0, 0, len(SAVED)] + list(SAVED)
                         + [3, 1, 0, 0, 3, -3, 0, 0, 3, 2, 0, 0] + zero * 2 + [5, 0, 1, 1, 1, 55] + zero
                         + [4, -7, 1, 1, 0])


def some_calls():
    return flat(language("a", "", ","), language("b", "a"), rules("a", (1, 1, 0, 0, 1, 1)),
                put("a", "k", "{0}{1 group}"), number(0, 1), number(1, 1000), show("b", "k"), wants("b", "k"),
                slots("b", "k"), judge("{1}{"), judge("{1}"), put("b", "k", "{2 select[a|1][other|{3}]}"), word(2, "a"), show("b", "k"), drop("b", "k"), clear(),
                show("b", "k"), language("a", "b"), rules("x"), word(16, "abc")) + all_calls()


class HandedIn(unittest.TestCase):
    def test_the_list_is_not_changed(self):
        calls = some_calls()
        answers(calls)
        self.assertEqual(calls, some_calls())

    def test_not_for_a_while_either(self):
        class Watched(list):
            def refuse(self, *told):
                raise AssertionError("the list that was handed in was changed")

            append = extend = insert = pop = remove = clear = sort = reverse = refuse
            __setitem__ = __delitem__ = __iadd__ = __imul__ = refuse

        self.assertEqual(answers(Watched(some_calls())), answers(some_calls()))

    def test_the_answers_are_a_list_of_their_own(self):
        calls = some_calls()
        told = answers(calls)
        kept = list(told)
        told.append(1)
        told[0] = 99
        self.assertEqual(answers(calls), kept)

    def test_nothing_is_kept(self):
        first = answers(some_calls())
        self.assertEqual(answers(flat(show("a", "k"), wants("b", "k"), language("b", "a"), text("a", "k"), chain("a"))),
                         [3, -3, 0, 0] * 5)
        self.assertEqual(answers(save()), [7, 0, 0, 4] + list(b"say\n"))
        self.assertEqual(answers(flat(language("a"), put("a", "k", "{0}{1}"), show("a", "k")))[8:], [4, -7, 1, 3, 0])
        self.assertEqual(answers(some_calls()), first)

    def test_plain_whole_numbers(self):
        told = answers(some_calls())
        self.assertIs(type(told), list)
        self.assertEqual({type(one) for one in told}, {int})

    def test_400_calls(self):
        self.assertEqual(answers([8] * 400), [3, 0, 0, 0] * 400)

    def test_as_much_as_may_be(self):
        deep = "{0 plural[other|" * 8 + "#" * 800 + "]}" * 8
        calls = flat(language("a", "", "abcd"), put("a", "k", deep), number(0, -2 ** 63), *[show("a", "k")] * 20)
        told = answers(calls)
        self.assertEqual(len(told), 12 + 20 * (5 + 800 * 44))

    def test_the_longest_text(self):
        lines = b"say\n" + b"".join(b"language l%x - -\n" % count for count in range(12))
        for count in range(12):
            message = b"message k%02d 1024\n" % count + b"{0}\n" * 256 + b"\n"
            lines += message if len(lines) + len(message) <= 14000 else b""
        self.assertGreater(len(lines), 12500)
        self.assertEqual(answers(flat(load(lines), save(), save()))[4:],
                         ([3 + len(lines), 0, 0, len(lines)] + list(lines)) * 2)
        nested = b"{0 plural[other|" * 8 + b"x" * 800 + b"]}" * 8
        lines = b"say\nlanguage a - -\n" + b"".join(b"message k%d %d\n%s\n" % (count, len(nested), nested)
                                                     for count in range(10))
        self.assertEqual(answers(flat(load(lines), keys("a"))), [3, 1, 0, 0, 3, 10, 0, 0])
        blanks = b"say\n" + b" " * 13996
        self.assertEqual(answers(flat(load(blanks))), [4, -6, 1, 1, 0])
        self.assertEqual(answers(flat(load(b"say\n" + b"\n" * 13996))), [4, -6, 1, 1, 0])
        self.assertEqual(answers(flat(load(b"say\nlanguage a - " + b"0" * 13000))), [4, -6, 1, 1, 0])

    def test_one_behind_another_is_as_one_by_one(self):
        chance = random.Random(5)
        pool = [language("a"), language("b", "a"), put("a", "k", "{0}"), put("b", "k", "{1 group}"), number(0, 5),
                number(1, 5), word(0, "x"), word(1, "x"), clear(), drop("b", "k"), drop("a", "k"), show("a", "k"),
                show("b", "k"), wants("b", "k"), slots("b", "k"), judge("{0}"), rules("a"), language("b"),
                text("b", "k"), category(1, "a"), keys("b"), key(0, "b"), lacks("b"), lack(0, "b"), odds("b"),
                odd(0, "b"), chain("b"), save(), load(SAVED), load("say\nlanguage a - -\n")]
        for turn in range(60):
            calls = [chance.choice(pool) for count in range(30)]
            told = answers(flat(*calls))
            for count in range(1, 30):
                begun = answers(flat(*calls[:count]))
                self.assertEqual(begun, told[:len(begun)])


if __name__ == "__main__":
    unittest.main()
