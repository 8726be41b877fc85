"""P4: a number's category is told by its size; and numbers in groups."""

import random
import unittest

from tests.helper import CATEGORIES, LEAST, MOST, category, clear, language, last, number, put, rules, run, show

BY_CATEGORY = "{0 plural[zero|0][one|1][two|2][few|3][many|4][other|5]}"
LARGEST = 2 ** 32 - 1

# 1 one; 2 to 4 at the end, but not 12 to 14, few; 0 and multiples of 10 many.
SAMPLE = (
    (1, 1, 0, 0, 1, 1),
    (0, 0, 0, 10, 2, 4),
    (3, 1, 1, 100, 12, 14),
    (4, 1, 0, 10, 0, 0),
)


def categories(terms, values):
    """The category of each value, as the branch that's shown tells it and as it's answered."""
    told = []
    for start in range(0, len(values), 100):
        calls = [language("a"), rules("a", *terms), put("a", "k", BY_CATEGORY)]
        for value in values[start:start + 100]:
            calls.extend([number(0, value), show("a", "k"), category(value, "a")])
        answers = run(*calls)
        told.extend(int(text) for answer, numbers, text in answers[4::3])
        if answers[5::3] != [(int(text), [], b"") for answer, numbers, text in answers[4::3]]:
            raise AssertionError("what's shown and what's answered differ: %s" % (terms,))
    return told


def holds(term, value):
    size = value if value >= 0 else -value
    rest = size - size // term[3] * term[3] if term[3] else size
    return (rest in range(term[4], term[5] + 1)) == (term[2] == 0)


def expected_category(terms, value):
    alternatives = [[]]
    for term in terms:
        alternatives[-1].append(term)
        if term[1]:
            alternatives.append([])
    for alternative in alternatives[:-1]:
        if all(holds(term, value) for term in alternative):
            return alternative[-1][0]
    return 5


def told_for(*terms):
    return last(language("a"), rules("a", *terms))


class Rules(unittest.TestCase):
    def test_how_many_terms(self):
        term = (1, 1, 0, 0, 1, 1)
        for count in (0, 1, 2, 31, 32):
            self.assertEqual(told_for(*[term] * count), (count, [], b""))
        for count in (33, 34, 50):
            self.assertEqual(told_for(*[term] * count), (-1, [], b""))

    def test_six_numbers_a_term(self):
        numbers = (1, 1, 0, 1, 1, 1, 1, 1, 1, 1, 1, 1, 1)
        for count in range(14):
            self.assertEqual(told_for(numbers[:count])[0], count // 6 if count % 6 == 0 else -1, count)

    def test_last_term_ends(self):
        self.assertEqual(told_for((1, 0, 0, 0, 1, 1))[0], -1)
        self.assertEqual(told_for((1, 1, 0, 0, 1, 1), (1, 0, 0, 0, 1, 1))[0], -1)
        self.assertEqual(told_for((1, 0, 0, 0, 1, 1), (1, 0, 0, 0, 1, 1), (1, 1, 0, 0, 1, 1))[0], 3)
        self.assertEqual(told_for(*[(1, 0, 0, 0, 1, 1)] * 31, (1, 1, 0, 0, 1, 1))[0], 32)
        self.assertEqual(told_for(*[(1, 0, 0, 0, 1, 1)] * 32)[0], -1)

    def test_what_the_numbers_may_be(self):
        self.assertEqual(told_for((5, 1, 1, LARGEST, LARGEST, LARGEST))[0], 1)
        self.assertEqual(told_for((0, 1, 0, 0, 0, 0))[0], 1)
        self.assertEqual(told_for((1, 1, 0, 0, 9, 3))[0], 1)
        for place, wrong in ((0, 6), (0, LARGEST), (1, 2), (1, LARGEST), (2, 2), (2, LARGEST), (3, LARGEST + 1),
                             (4, LARGEST + 1), (5, LARGEST + 1)):
            term = [1, 1, 0, 0, 1, 1]
            term[place] = wrong
            self.assertEqual(told_for(term)[0], -1, term)
            self.assertEqual(told_for(term, (1, 1, 0, 0, 1, 1))[0], -1, term)

    def test_no_rules(self):
        self.assertEqual(categories((), [0, 1, 2, -1, MOST, LEAST]), [5] * 6)

    def test_taken_away_again(self):
        calls = [language("a"), put("a", "k", BY_CATEGORY), number(0, 1), rules("a", *SAMPLE), show("a", "k"),
                 rules("a", (2, 1, 0, 0, 1, 1)), show("a", "k"), rules("a"), show("a", "k")]
        self.assertEqual([answer[2] for answer in run(*calls)[4::2]], [b"1", b"2", b"5"])

    def test_rules_stay_when_the_language_is_told_again(self):
        calls = [language("a"), rules("a", *SAMPLE), put("a", "k", BY_CATEGORY), language("a", "", "."),
                 number(0, 1), show("a", "k")]
        self.assertEqual(last(*calls), (0, [0], b"1"))


class Categories(unittest.TestCase):
    def test_each(self):
        for one in range(6):
            self.assertEqual(categories([(one, 1, 0, 0, 7, 7)], [6, 7, 8]), [5, one, 5])

    def test_sample(self):
        values = [0, 1, 2, 4, 5, 10, 11, 12, 14, 15, 22, 24, 30, 100, 101, 112, 122]
        self.assertEqual(categories(SAMPLE, values), [4, 1, 3, 3, 5, 4, 5, 5, 5, 5, 3, 3, 4, 4, 5, 5, 3])

    def test_below_0(self):
        values = list(range(0, 130)) + [MOST, 2 ** 40, 2 ** 62 + 12]
        self.assertEqual(categories(SAMPLE, [-value for value in values]), categories(SAMPLE, values))

    def test_size_of_the_least(self):
        # 2^63 leaves 8 when divided by 10 and 808 when divided by 1,000.
        self.assertEqual(categories([(1, 0, 0, 10, 8, 8), (2, 1, 0, 1000, 808, 808)], [LEAST, MOST]), [2, 5])

    def test_low_and_high(self):
        self.assertEqual(categories([(3, 1, 0, 0, 3, 5)], [2, 3, 4, 5, 6]), [5, 3, 3, 3, 5])
        self.assertEqual(categories([(3, 1, 0, 0, 5, 3)], [2, 3, 4, 5, 6]), [5] * 5)
        self.assertEqual(categories([(3, 1, 0, 0, LARGEST, LARGEST)], [LARGEST - 1, LARGEST, LARGEST + 1]), [5, 3, 5])

    def test_outside(self):
        self.assertEqual(categories([(3, 1, 1, 0, 3, 5)], [2, 3, 4, 5, 6]), [3, 5, 5, 5, 3])
        self.assertEqual(categories([(3, 1, 1, 0, 5, 3)], [2, 3, 4, 5, 6]), [3] * 5)
        self.assertEqual(categories([(3, 1, 1, 10, 3, 5)], [12, 13, -15, -16]), [3, 5, 5, 3])

    def test_modulus(self):
        self.assertEqual(categories([(3, 1, 0, 0, 2, 2)], [2, 12]), [3, 5])
        self.assertEqual(categories([(3, 1, 0, 10, 2, 2)], [2, 12, 20]), [3, 3, 5])
        self.assertEqual(categories([(3, 1, 0, 1, 0, 0)], [0, 7, MOST]), [3, 3, 3])
        self.assertEqual(categories([(3, 1, 0, 10, 10, 99)], [10, 15]), [5, 5])
        self.assertEqual(categories([(3, 1, 0, LARGEST, 1, 1)], [LARGEST + 1, -LARGEST - 1, LARGEST]), [3, 3, 5])

    def test_category_of_an_alternative_is_its_last_term_s(self):
        self.assertEqual(categories([(1, 0, 0, 0, 0, 9), (2, 0, 0, 2, 0, 0), (4, 1, 0, 0, 4, 4)], [4, 2]), [4, 5])

    def test_first_alternative_that_holds(self):
        self.assertEqual(categories([(1, 1, 0, 0, 1, 5), (2, 1, 0, 0, 3, 8)], [1, 4, 7, 9]), [1, 1, 2, 5])
        self.assertEqual(categories([(5, 1, 0, 0, 1, 5), (2, 1, 0, 0, 3, 8)], [4, 7]), [5, 2])
        # A term that doesn't hold spoils its own alternative alone.
        self.assertEqual(categories([(1, 0, 0, 0, 9, 9), (1, 1, 0, 0, 1, 1), (2, 1, 0, 0, 1, 1)], [1]), [2])

    def test_by_chance(self):
        chance = random.Random(3)
        values = list(range(-30, 31)) + [99, 100, 101, 111, MOST, LEAST, 10 ** 12 + 3]
        for turn in range(150):
            terms = []
            for count in range(chance.randrange(1, 12)):
                terms.append((chance.randrange(6), chance.randrange(2), chance.randrange(2),
                              chance.choice([0, 0, 1, 2, 3, 10, 100]), chance.randrange(6), chance.randrange(12)))
            terms[-1] = (terms[-1][0], 1) + terms[-1][2:]
            self.assertEqual(categories(terms, values), [expected_category(terms, value) for value in values], terms)

    def test_names_stand_for_their_categories(self):
        for one, name in enumerate(CATEGORIES[:5]):
            message = "{0 plural[" + name + "|yes][other|no]}"
            for told in range(6):
                answer = last(language("a"), rules("a", (told, 1, 0, 0, 0, 9)), put("a", "k", message), number(0, 3),
                              show("a", "k"))
                self.assertEqual(answer[2], b"yes" if told == one else b"no")


class Answered(unittest.TestCase):
    def told(self, value, *terms):
        return last(language("a"), rules("a", *terms), category(value, "a"))

    def test_each(self):
        for one in range(6):
            self.assertEqual(self.told(7, (one, 1, 0, 0, 7, 7)), (one, [], b""))
            self.assertEqual(self.told(-7, (one, 1, 0, 0, 7, 7)), (one, [], b""))
            self.assertEqual(self.told(8, (one, 1, 0, 0, 7, 7)), (5, [], b""))

    def test_without_rules(self):
        for value in (0, 1, -1, LEAST, MOST):
            self.assertEqual(self.told(value), (5, [], b""))

    def test_ends_of_64_bits(self):
        for terms, least, most in ((((1, 1, 0, 10, 8, 8), (2, 1, 0, 10, 7, 7)), 1, 2),
                                   (((1, 1, 1, 0, 0, LARGEST),), 1, 1), (((1, 1, 0, 0, 0, LARGEST),), 5, 5),
                                   (((1, 1, 0, LARGEST, 2147483648, 2147483648),), 1, 5),
                                   (((3, 1, 1, 10, 8, 8),), 5, 3)):
            self.assertEqual(self.told(LEAST, *terms), (least, [], b""), terms)
            self.assertEqual(self.told(MOST, *terms), (most, [], b""), terms)
            for value in (LEAST - 1, MOST + 1, -2 ** 65, 2 ** 65 - 1):
                self.assertEqual(self.told(value, *terms), (-1, [], b""), terms)

    def test_outside_with_and_without_a_modulus(self):
        for value, without, beside in ((2, 4, 4), (3, 5, 5), (5, 5, 5), (6, 4, 4), (13, 4, 5), (-13, 4, 5),
                                       (-16, 4, 4)):
            self.assertEqual(self.told(value, (4, 1, 1, 0, 3, 5)), (without, [], b""), value)
            self.assertEqual(self.told(value, (4, 1, 1, 10, 3, 5)), (beside, [], b""), value)

    def test_rules_of_the_language_itself(self):
        told = run(language("a"), language("b", "a"), rules("a", (1, 1, 0, 0, 1, 1)), category(1, "b"),
                   category(1, "a"), rules("b", (2, 1, 0, 0, 1, 1)), category(1, "b"), category(1, "a"))
        self.assertEqual([told[place] for place in (3, 4, 6, 7)],
                         [(5, [], b""), (1, [], b""), (2, [], b""), (1, [], b"")])

    def test_a_value_beyond_is_told_first(self):
        for tag, told in (("a", 5), ("b", -3), ("", -1), ("-", -1), ("A", -1)):
            self.assertEqual(last(language("a"), category(MOST, tag)), (told, [], b""))
            self.assertEqual(last(language("a"), category(LEAST, tag)), (told, [], b""))
            self.assertEqual(last(language("a"), category(MOST + 1, tag)), (-1, [], b""))
            self.assertEqual(last(language("a"), category(LEAST - 1, tag)), (-1, [], b""))


def groups(value, separator):
    digits = str(value).lstrip("-")
    parts = []
    while digits:
        parts.insert(0, digits[-3:])
        digits = digits[:-3]
    return (b"-" if value < 0 else b"") + separator.join(part.encode() for part in parts)


class Groups(unittest.TestCase):
    def shown(self, message, value, separator):
        return last(language("a", "", separator), put("a", "k", message), number(0, value), show("a", "k"))[2]

    def test_digits_and_separators(self):
        for separator in (b"", b",", b"\xc2\xa0", b"'\x00'", b"1234"):
            values = [0] + [int("1234567890123456789"[:count]) for count in range(1, 20)]
            values += [10 ** count for count in range(19)] + [10 ** count - 1 for count in range(1, 19)] + [MOST]
            for value in values + [-value for value in values] + [LEAST]:
                self.assertEqual(self.shown("{0 group}", value, separator), groups(value, separator))
                self.assertEqual(self.shown("{0 plural[other|#]}", value, separator), groups(value, separator))

    def test_written_out(self):
        for value, text in ((0, b"0"), (999, b"999"), (1000, b"1,000"), (-999, b"-999"), (-1000, b"-1,000"),
                            (123456, b"123,456"), (-123456, b"-123,456"), (1000000, b"1,000,000"),
                            (MOST, b"9,223,372,036,854,775,807"), (LEAST, b"-9,223,372,036,854,775,808")):
            self.assertEqual(self.shown("{0 group}", value, ","), text)

    def test_an_argument_by_itself_is_not_in_groups(self):
        for value in (0, -5, 1000, LEAST, MOST):
            self.assertEqual(self.shown("{0}", value, ","), str(value).encode())

    def test_separator_told_again(self):
        calls = [language("a", "", ","), put("a", "k", "{0 group}"), number(0, 1000), show("a", "k"),
                 language("a", "", "."), show("a", "k"), language("a"), show("a", "k"), clear(), show("a", "k")]
        told = run(*calls)
        self.assertEqual([told[3][2], told[5][2], told[7][2]], [b"1,000", b"1.000", b"1000"])
        self.assertEqual(told[9], (-7, [1], b""))


if __name__ == "__main__":
    unittest.main()
