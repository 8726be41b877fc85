"""The interface: how calls are handed in and how the answers are laid out, as whole lists."""

import random
import unittest

from saymessages.kit import answers
from tests.helper import (clear, drop, judge, language, number, put, rules, show, slots, wants, word)

A = 97
K = 107


def flat(*calls):
    return [one for call in calls for one in call]


class WholeLists(unittest.TestCase):
    def test_language(self):
        self.assertEqual(answers([1, 1, A, 0, 0]), [3, 0, 0, 0])
        self.assertEqual(answers([1, 1, A, 0, 1, 44, 1, 2, A, A, 1, A, 0, 1, 1, A, 0, 0]),
                         [3, 0, 0, 0, 3, 0, 0, 0, 3, 1, 0, 0])
        self.assertEqual(answers([1, 0, 0, 0]), [3, -1, 0, 0])

    def test_rules(self):
        self.assertEqual(answers([1, 1, A, 0, 0, 2, 1, A, 12, 1, 1, 0, 0, 1, 1, 2, 1, 0, 0, 2, 2]),
                         [3, 0, 0, 0, 3, 2, 0, 0])
        self.assertEqual(answers([2, 1, A, 0]), [3, -3, 0, 0])

    def test_put_show_drop(self):
        calls = [1, 1, A, 0, 0, 3, 1, A, 1, K, 2, 104, 105, 9, 1, A, 1, K, 4, 1, A, 1, K, 9, 1, A, 1, K]
        self.assertEqual(answers(calls), [3, 0, 0, 0, 3, 0, 0, 0, 6, 0, 1, 0, 2, 104, 105, 3, 0, 0, 0, 3, -4, 0, 0])

    def test_put_refused(self):
        self.assertEqual(answers([1, 1, A, 0, 0, 3, 1, A, 1, K, 2, A, 125]), [3, 0, 0, 0, 4, -6, 1, 1, 0])

    def test_judge(self):
        self.assertEqual(answers([5, 0]), [6, 0, 3, 0, 0, 0, 0])
        self.assertEqual(answers([5, 3, 123, 51, 125]), [6, 0, 3, 8, 0, 0, 0])
        self.assertEqual(answers([5, 2, 123, 51]), [4, -6, 1, 2, 0])
        self.assertEqual(answers([5, 1025] + [A] * 1025), [3, -1, 0, 0])

    def test_number_word_clear(self):
        self.assertEqual(answers([6, 0, -5]), [3, 0, 0, 0])
        self.assertEqual(answers([7, 15, 0]), [3, 0, 0, 0])
        self.assertEqual(answers([7, 15, 2, 0, 255]), [3, 0, 0, 0])
        self.assertEqual(answers([8]), [3, 0, 0, 0])
        self.assertEqual(answers([8, 6, 16, 0, 8]), [3, 0, 0, 0, 3, -1, 0, 0, 3, 0, 0, 0])

    def test_wants_and_slots(self):
        message = list(b"{0}{5 group}")
        base = [1, 1, A, 0, 0, 3, 1, A, 1, K, len(message)] + message + [6, 0, 7]
        self.assertEqual(answers(base + [10, 1, A, 1, K, 11, 1, A, 1, K, 9, 1, A, 1, K]),
                         [3, 0, 0, 0] * 3 + [3, 32, 0, 0, 6, 0, 3, 1, 32, 0, 0, 4, -7, 1, 32, 0])

    def test_further_on_the_way(self):
        calls = flat(language("a"), language("b", "a"), put("a", "k", "{3}"), word(3, "!"), show("b", "k"),
                     slots("b", "k"), wants("b", "k"))
        self.assertEqual(answers(calls)[16:], [5, 0, 1, 1, 1, 33, 6, 1, 3, 8, 0, 0, 0, 3, 0, 0, 0])

    def test_an_example(self):
        message = "{0 plural[one|# file was][other|# files were]} copied to {1}"
        calls = flat(language("en", "", ","), rules("en", (1, 1, 0, 0, 1, 1)), put("en", "copied", message),
                     number(0, 1200), word(1, "/tmp"), show("en", "copied"))
        text = b"1,200 files were copied to /tmp"
        self.assertEqual(answers(calls), [3, 0, 0, 0, 3, 1, 0, 0] + [3, 0, 0, 0] * 3
                         + [4 + len(text), 0, 1, 0, len(text)] + list(text))


def some_calls():
    return flat(language("a", "", ","), language("b", "a"), rules("a", (1, 1, 0, 0, 1, 1)), put("a", "k", "{0}{1 group}"),
                number(0, 1), number(1, 1000), show("b", "k"), wants("b", "k"), slots("b", "k"), judge("{1}{"), judge("{1}"),
                put("b", "k", "{2 select[a|1][other|{3}]}"), word(2, "a"), show("b", "k"), drop("b", "k"), clear(),
                show("b", "k"), language("a", "b"), rules("x"), word(16, "abc"))


class HandedIn(unittest.TestCase):
    def test_the_list_is_not_changed(self):
        calls = some_calls()
        answers(calls)
        self.assertEqual(calls, some_calls())

    def test_not_for_a_while_either(self):
        class Watched(list):
            def refuse(self, *told):
                raise AssertionError("the list that was handed in was changed")

            append = extend = insert = pop = remove = clear = sort = reverse = refuse
            __setitem__ = __delitem__ = __iadd__ = __imul__ = refuse

        self.assertEqual(answers(Watched(some_calls())), answers(some_calls()))

    def test_the_answers_are_a_list_of_their_own(self):
        calls = some_calls()
        told = answers(calls)
        kept = list(told)
        told.append(1)
        told[0] = 99
        self.assertEqual(answers(calls), kept)

    def test_nothing_is_kept(self):
        first = answers(some_calls())
        self.assertEqual(answers(flat(show("a", "k"), wants("b", "k"), language("b", "a"))), [3, -3, 0, 0] * 3)
        self.assertEqual(answers(flat(language("a"), put("a", "k", "{0}{1}"), show("a", "k")))[8:], [4, -7, 1, 3, 0])
        self.assertEqual(answers(some_calls()), first)

    def test_plain_whole_numbers(self):
        told = answers(some_calls())
        self.assertIs(type(told), list)
        self.assertEqual({type(one) for one in told}, {int})

    def test_400_calls(self):
        self.assertEqual(answers([8] * 400), [3, 0, 0, 0] * 400)

    def test_as_much_as_may_be(self):
        deep = "{0 plural[other|" * 8 + "#" * 800 + "]}" * 8
        calls = flat(language("a", "", "abcd"), put("a", "k", deep), number(0, -2 ** 63), *[show("a", "k")] * 20)
        told = answers(calls)
        self.assertEqual(len(told), 12 + 20 * (5 + 800 * 44))

    def test_one_behind_another_is_as_one_by_one(self):
        chance = random.Random(5)
        pool = [language("a"), language("b", "a"), put("a", "k", "{0}"), put("b", "k", "{1 group}"), number(0, 5),
                number(1, 5), word(0, "x"), word(1, "x"), clear(), drop("b", "k"), drop("a", "k"), show("a", "k"),
                show("b", "k"), wants("b", "k"), slots("b", "k"), judge("{0}"), rules("a"), language("b")]
        for turn in range(60):
            calls = [chance.choice(pool) for count in range(30)]
            told = answers(flat(*calls))
            for count in range(1, 30):
                begun = answers(flat(*calls[:count]))
                self.assertEqual(begun, told[:len(begun)])


if __name__ == "__main__":
    unittest.main()
