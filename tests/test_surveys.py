"""P6: what's lacking, what's odd is told truly; and which keys a language has."""

import random
import unittest

from tests.helper import MOST, drop, key, keys, lack, lacks, language, load, odd, odds, put, run

ORDER = ["-", "--", "-a", ".", "0", "9", "9.", "_", "a", "a-", "a.", "a0", "aa", "ab", "b", "z" * 23, "z" * 24]
WAY = [language("a"), language("b", "a"), language("c", "b"), language("d", "c")]
COUNTS = {key: keys, lack: lacks, odd: odds}


class Surveys(unittest.TestCase):
    def check(self, each, tag, expected, *calls):
        """How many there are, each of them in order, and none behind them."""
        beyond = (len(expected), len(expected) + 1, 2 ** 32, MOST)
        asked = [each(place, tag) for place in range(len(expected))] + [each(place, tag) for place in beyond]
        told = run(*calls, COUNTS[each](tag), *asked)[len(calls):]
        self.assertEqual(told, [(len(expected), [], b"")] + [(0, [], name.encode()) for name in expected]
                         + [(-4, [], b"")] * 4)


class Keys(Surveys):
    def test_none_one_and_several(self):
        self.check(key, "a", [], language("a"))
        self.check(key, "a", ["k"], language("a"), put("a", "k", "x"))
        self.check(key, "a", ["a", "ab", "b"], language("a"), put("a", "b", ""), put("a", "ab", ""), put("a", "a", ""))

    def test_in_order_by_bytes(self):
        for turn in range(20):
            names = list(ORDER)
            random.Random(turn).shuffle(names)
            self.check(key, "a", ORDER, language("a"), *[put("a", name, "x") for name in names])

    def test_48(self):
        names = ["k%02d" % count for count in range(48)]
        self.check(key, "a", names, language("a"), *[put("a", name, "") for name in names[::-1]], put("a", "more", ""))

    def test_its_own_alone(self):
        calls = WAY + [put("a", "far", ""), put("b", "own", ""), put("c", "later", ""), put("b", "far", "")]
        self.check(key, "b", ["far", "own"], *calls)
        self.check(key, "d", [], *calls)

    def test_put_again_and_dropped(self):
        calls = WAY + [put("a", "j", ""), put("a", "k", ""), put("a", "j", "x")]
        self.check(key, "a", ["j", "k"], *calls)
        self.check(key, "a", ["k"], *calls, drop("a", "j"))
        self.check(key, "a", [], *calls, drop("a", "j"), drop("a", "k"))
        self.check(key, "a", ["i", "k"], *calls, drop("a", "j"), put("a", "i", ""))
        self.check(key, "a", ["j", "k"], *calls, put("a", "i", "{"))


class Lacks(Surveys):
    def test_none_one_and_several(self):
        self.check(lack, "a", [], language("a"))
        self.check(lack, "a", [], language("a"), put("a", "k", ""))
        self.check(lack, "b", [], *WAY, put("b", "k", ""))
        self.check(lack, "b", ["k"], *WAY, put("a", "k", ""))
        self.check(lack, "b", ["j", "k"], *WAY, put("a", "k", ""), put("a", "j", ""))

    def test_what_the_language_has_itself(self):
        calls = WAY + [put("a", "j", ""), put("a", "k", ""), put("b", "k", ""), put("b", "own", "")]
        self.check(lack, "b", ["j"], *calls)
        self.check(lack, "b", ["j", "k"], *calls, drop("b", "k"))
        self.check(lack, "a", [], *calls)

    def test_all_that_is_behind_and_nothing_before(self):
        calls = WAY + [put("a", "k.a", ""), put("b", "k.b", ""), put("c", "k.c", ""), put("d", "k.d", "")]
        self.check(lack, "d", ["k.a", "k.b", "k.c"], *calls)
        self.check(lack, "c", ["k.a", "k.b"], *calls)
        self.check(lack, "b", ["k.a"], *calls)
        self.check(lack, "a", [], *calls)

    def test_told_once(self):
        calls = WAY + [put(tag, "k", "") for tag in "abc"]
        self.check(lack, "d", ["k"], *calls)
        self.check(lack, "d", ["j", "k"], *calls, put("c", "j", ""), put("a", "j", ""))
        self.check(lack, "d", [], *calls, put("d", "k", ""))

    def test_in_order_by_bytes(self):
        calls = WAY + [put("abc"[place * 5 % 3], name, "") for place, name in enumerate(ORDER[::-1])]
        self.check(lack, "d", ORDER, *calls)
        self.check(lack, "d", ORDER[1:-1], *calls, put("d", ORDER[0], ""), put("d", ORDER[-1], ""))

    def test_by_the_way_as_it_is_now(self):
        calls = WAY + [language("x"), put("a", "j", ""), put("x", "k", "")]
        self.check(lack, "d", ["j"], *calls)
        self.check(lack, "d", ["k"], *calls, language("c", "x"))
        self.check(lack, "d", [], *calls, language("c"))
        self.check(lack, "d", ["j", "k"], *calls, language("a", "x"))

    def test_more_than_48(self):
        names = ["%s%02d" % (tag, count) for tag in "abc" for count in range(40)]
        self.check(lack, "d", names, *WAY, *[put(name[0], name, "") for name in names])

    def test_of_what_was_loaded(self):
        text = "say\nlanguage b a -\nmessage k 0\n\nlanguage a - -\nmessage j 0\n\nmessage k 0\n\nmessage l 0\n\n"
        self.check(lack, "b", ["j", "l"], load(text))


class Odds(Surveys):
    def judge(self, own, behind, is_odd):
        self.check(odd, "b", ["k"] if is_odd else [], *WAY, put("a", "k", behind), put("b", "k", own))

    def test_by_any_by_a_number_and_by_a_text(self):
        named = {"": 0, "{3}": 1, "{3 group}": 2, "{3 plural[other|]}": 2, "{3 plural[other|#]}": 2,
                 "{3 select[other|]}": 4, "{3}{3 group}": 3, "{3 select[other|]}{3}": 5,
                 "{3 plural[other|{3 select[other|{3}]}]}": 7, "x\\{3\\}": 0, "{3 select[a|{3 group}][other|]}": 6}
        for own, own_bits in named.items():
            for behind, bits in named.items():
                self.judge(own, behind, own_bits & ~bits != 0)

    def test_by_the_slot(self):
        for own, behind, is_odd in (("{1}", "{1}", False), ("{1}", "{2}", True), ("{1}", "{1}{2}", False),
                                    ("{1}{2}", "{1}", True), ("{0}", "{15}", True), ("{15}", "{0}", True),
                                    ("{15}", "{0}{15}", False), ("{10}", "{1}{0}", True), ("{0 group}", "{0}", True),
                                    ("{1 group}{2}", "{2 group}{1}", True), ("{2}{1}{2}", "{1}{2}", False),
                                    ("{1 plural[one|{2}][other|]}", "{1 group}", True),
                                    ("{1 plural[one|{2}][other|]}", "{1 group}{2}", False),
                                    ("{1 select[a|][b|{7 group}][other|]}", "{1 select[other|]}", True),
                                    ("{1 select[other|]}", "{1 select[a|][b|{7 group}][other|]}", False)):
            self.judge(own, behind, is_odd)

    def test_what_the_way_behind_does_not_have(self):
        self.check(odd, "a", [], *WAY, put("a", "k", "{1}"))
        self.check(odd, "b", [], *WAY, put("b", "k", "{1}"))
        self.check(odd, "b", [], *WAY, put("b", "k", "{1}"), put("a", "j", ""))
        self.check(odd, "b", [], *WAY, put("b", "k", "{1}"), put("c", "k", ""), put("d", "k", ""))
        self.check(odd, "b", [], *WAY, put("a", "k", ""))

    def test_two_languages_on(self):
        calls = WAY + [put("a", "k", ""), put("c", "k", "{1}")]
        self.check(odd, "c", ["k"], *calls)
        self.check(odd, "c", ["k"], *calls, put("a", "k", "{2}"))
        self.check(odd, "c", [], *calls, put("a", "k", "{1}"))
        self.check(odd, "d", ["k"], *WAY, put("d", "k", "{1}"), put("b", "k", "x"), put("a", "k", "{1}"))

    def test_the_first_on_the_way_behind_counts(self):
        calls = WAY + [put("d", "k", "{1}"), put("a", "k", "{1}"), put("c", "k", "")]
        self.check(odd, "d", ["k"], *calls)
        self.check(odd, "d", [], *calls, drop("c", "k"))
        self.check(odd, "d", [], *calls, put("c", "k", "{1}"), put("a", "k", ""))
        self.check(odd, "c", [], *calls)

    def test_own_messages_alone(self):
        calls = WAY + [put("c", "k", "{1}"), put("b", "k", "")]
        self.check(odd, "c", ["k"], *calls)
        self.check(odd, "d", [], *calls)

    def test_several_in_order_by_bytes(self):
        calls = WAY + [put("a", name, "") for name in ORDER] + [put("b", name, "{1}") for name in ORDER[::-1]]
        self.check(odd, "b", ORDER, *calls)
        self.check(odd, "b", ORDER[1:-1], *calls, put("b", ORDER[0], "x"), drop("b", ORDER[-1]))

    def test_of_what_was_loaded(self):
        text = ("say\nlanguage b a -\nmessage j 3\n{1}\nmessage k 3\n{1}\nmessage l 0\n\n"
                "language a - -\nmessage j 3\n{2}\nmessage k 3\n{1}\nmessage l 3\n{1}\n")
        self.check(odd, "b", ["j"], load(text))


if __name__ == "__main__":
    unittest.main()
