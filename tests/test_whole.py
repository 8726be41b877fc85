"""All promises over all calls: calls by chance, in any order, against a kit that the tests reckon by themselves."""

import copy
import random
import re
import unittest

from tests import helper
from tests.helper import CATEGORIES, LEAST, MOST, answer_to_load, fault_of, run
from tests.test_numbers import expected_category
from tests.test_shown import Tree, expected, named, written

TAGS = ("a", "b", "c-3", "dd", "e")
NO_TAGS = ("", "-a", "A", "a" * 13, "x")
KEYS = ("k", "k.1", "ka", "_", "0")
NO_KEYS = ("", "K", "k" * 25, "never")
WRONG_MESSAGES = ("{", "a}", "{16}", "{1 plural[other|]", "\\a", "x" * 1025)


TAG = "[a-z0-9][a-z0-9-]{0,11}"
KEY = "[a-z0-9_.-]{1,24}"


class Refused(Exception):
    pass


def refuse_if(wrong, refusal, row=()):
    if wrong:
        raise Refused(refusal, list(row))


class Model:
    """The kit as sections 1 to 5 tell it: languages as dicts, messages as the items that they were made of."""

    def __init__(self):
        self.languages = {}
        self.arguments = {}

    def checked(self, tag, name=None):
        refuse_if(not re.fullmatch(TAG, tag), -1)
        refuse_if(name is not None and not re.fullmatch(KEY, name), -1)
        refuse_if(tag not in self.languages, -3)
        return self.languages[tag]

    def way(self, tag):
        return [tag] + (self.way(self.languages[tag]["fallback"]) if self.languages[tag]["fallback"] else [])

    def found(self, tag, name):
        self.checked(tag, name)
        for steps, one in enumerate(self.way(tag)):
            if name in self.languages[one]["messages"]:
                return steps, self.languages[one], self.languages[one]["messages"][name]
        raise Refused(-4, [])

    def shown(self, tag, name):
        steps, owner, items = self.found(tag, name)

        def name_of(value):
            return CATEGORIES[expected_category(owner["rules"], value)]

        wanted, text = expected(items, self.arguments, name_of, owner["separator"])
        return steps, wanted, text

    def language(self, tag, fallback, separator):
        refuse_if(not re.fullmatch(TAG, tag) or len(separator) > 4, -1)
        refuse_if(fallback and not re.fullmatch(TAG, fallback), -1)
        refuse_if(fallback and fallback not in self.languages, -3)
        refuse_if(fallback and tag in self.way(fallback), -5)
        new = {"rules": (), "messages": {}}
        was_there = tag in self.languages
        self.languages.setdefault(tag, new).update(fallback=fallback, separator=separator)
        return int(was_there), [], ""

    def rules(self, tag, *terms):
        refuse_if(not re.fullmatch(TAG, tag) or (terms and not terms[-1][1]), -1)
        self.checked(tag)["rules"] = terms
        return len(terms), [], ""

    def put(self, tag, name, items):
        refuse_if(isinstance(items, str) and len(items) > 1024, -1)
        messages = self.checked(tag, name)["messages"]
        self.judge(items)
        was_there = name in messages
        messages[name] = items
        return int(was_there), [], ""

    def drop(self, tag, name):
        messages = self.checked(tag, name)["messages"]
        refuse_if(name not in messages, -4)
        del messages[name]
        return 0, [], ""

    def judge(self, items):
        if isinstance(items, str):
            refuse_if(len(items) > 1024, -1)
            raise Refused(-6, [fault_of(items.encode())])
        return 0, named(items), ""

    def number(self, slot, value):
        refuse_if(slot > 15 or not LEAST <= value <= MOST, -1)
        self.arguments[slot] = value
        return 0, [], ""

    def word(self, slot, text):
        refuse_if(slot > 15 or len(text) > 64, -1)
        self.arguments[slot] = text
        return 0, [], ""

    def clear(self):
        self.arguments.clear()
        return 0, [], ""

    def show(self, tag, name):
        steps, wanted, text = self.shown(tag, name)
        refuse_if(wanted, -7, [wanted])
        return 0, [steps], text

    def wants(self, tag, name):
        return self.shown(tag, name)[1], [], ""

    def slots(self, tag, name):
        steps, owner, items = self.found(tag, name)
        return steps, named(items), ""

    def text(self, tag, name):
        steps, owner, items = self.found(tag, name)
        return steps, [], written(items)

    def category(self, value, tag):
        refuse_if(not LEAST <= value <= MOST, -1)
        return expected_category(self.checked(tag)["rules"], value), [], ""

    def all_keys(self, tag):
        return sorted(self.checked(tag)["messages"])

    def all_lacks(self, tag):
        self.checked(tag)
        behind = {name for one in self.way(tag) for name in self.languages[one]["messages"]}
        return sorted(behind - set(self.all_keys(tag)))

    def all_odds(self, tag):
        odd = []
        for name in self.all_keys(tag):
            behind = [self.languages[one]["messages"] for one in self.way(tag)[1:]]
            behind = [messages[name] for messages in behind if name in messages]
            own = self.languages[tag]["messages"][name]
            if behind and any(mine & ~its for mine, its in zip(named(own), named(behind[0]))):
                odd.append(name)
        return odd

    def ith(self, names, place):
        refuse_if(place >= len(names), -4)
        return 0, [], names[place]

    def keys(self, tag):
        return len(self.all_keys(tag)), [], ""

    def key(self, place, tag):
        return self.ith(self.all_keys(tag), place)

    def lacks(self, tag):
        return len(self.all_lacks(tag)), [], ""

    def lack(self, place, tag):
        return self.ith(self.all_lacks(tag), place)

    def odds(self, tag):
        return len(self.all_odds(tag)), [], ""

    def odd(self, place, tag):
        return self.ith(self.all_odds(tag), place)

    def chain(self, tag):
        self.checked(tag)
        return len(self.way(tag)), [], " ".join(self.way(tag))

    def save(self):
        text = "say\n"
        for tag, one in self.languages.items():
            digits = "".join("%02x" % ord(sign) for sign in one["separator"])
            text += "language %s %s %s\n" % (tag, one["fallback"] or "-", digits or "-")
            for term in one["rules"]:
                text += "rule %d %d %d %d %d %d\n" % term
            for name in sorted(one["messages"]):
                message = written(one["messages"][name])
                text += "message %s %d\n%s\n" % (name, len(message), message)
        return 0, [], text


class Case:
    """Calls made by chance, as lists, with the answers that the model gives."""

    def __init__(self, chance):
        self.chance = chance
        self.model = Model()
        self.calls = []
        self.answers = []
        for place, tag in enumerate(TAGS[:chance.choice([0, 3, 5, 5])]):
            self.say("language", tag, chance.choice(("", TAGS[place - 1])) if place else "", ",")
        self.kept = []
        self.keep()

    def say(self, name, *told):
        laid_out = [written(one) if isinstance(one, list) else one for one in told]
        self.calls.append(getattr(helper, name)(*laid_out))
        try:
            answer, row, text = getattr(self.model, name)(*told)
            self.answers.append((answer, row, text.encode("latin-1")))
        except Refused as refused:
            self.answers.append((refused.args[0], refused.args[1], b""))

    def tag(self):
        return self.chance.choice(TAGS * 12 + NO_TAGS)

    def name(self):
        return self.chance.choice(KEYS * 12 + NO_KEYS)

    def message(self):
        while True:
            items = Tree(self.chance).items(2, None)
            if len(written(items)) <= 60:
                return self.chance.choice([items] * 9 + [self.chance.choice(WRONG_MESSAGES)])

    def terms(self):
        return [(self.chance.randrange(6), int(self.chance.randrange(6) > 0), self.chance.randrange(2),
                 self.chance.choice([0, 3, 10]), self.chance.randrange(5), self.chance.randrange(8))
                for count in range(self.chance.randrange(4))]

    def keep(self):
        self.say("save")
        self.kept.append((self.answers[-1][2].decode("latin-1"), copy.deepcopy(self.model)))

    def load(self):
        if self.chance.randrange(3):
            self.keep()
        text, model = self.chance.choice(self.kept[-3:])
        self.calls.append(helper.load(text))
        self.answers.append((len(model.languages), [], b""))
        self.model.languages = copy.deepcopy(model.languages)

    def load_spoilt(self):
        text = self.chance.choice(self.kept)[0]
        place = self.chance.randrange(len(text))
        text = text[:place] + self.chance.choice(" \n-0a9{}") + text[place + self.chance.randrange(2):]
        answer = answer_to_load(text.encode("latin-1"))
        if answer[0] < 0:
            self.calls.append(helper.load(text))
            self.answers.append(answer)

    def one_more(self):
        value = self.chance.choice([0, 1, -2, 3, 10, 1234567, -4321, LEAST, MOST, LEAST - 1, MOST + 1])
        slot = self.chance.choice(list(range(6)) * 4 + [15, 16, MOST])
        place = self.chance.choice([0, 0, 1, 1, 2, 3, 4, 5, MOST])
        text = self.chance.choice(["a", "b", "ab", "other", "", "x" * 64, "x" * 65])
        separator = self.chance.choice(["", ",", ".", "'\n", "\x00\xff..", "12345"])
        kind = self.chance.randrange(40)
        if kind < 6:
            self.say("language", self.tag(), self.chance.choice(["", self.tag()]), separator)
        elif kind < 8:
            self.say("rules", self.tag(), *self.terms())
        elif kind < 16:
            self.say("put", self.tag(), self.name(), self.message())
        elif kind < 19:
            self.say("number", slot, value)
        elif kind < 21:
            self.say("word", slot, text)
        elif kind < 22:
            self.chance.choice([lambda: self.say("clear"), lambda: self.say("judge", self.message()), self.keep])()
        elif kind < 30:
            self.say(self.chance.choice(["drop", "show", "wants", "slots", "text", "show"]), self.tag(), self.name())
        elif kind < 31:
            self.say("category", value, self.tag())
        elif kind < 34:
            self.say(self.chance.choice(["keys", "lacks", "odds", "chain"]), self.tag())
        elif kind < 37:
            self.say(self.chance.choice(["key", "lack", "odd"]), place, self.tag())
        elif kind < 38:
            self.load()
        else:
            self.load_spoilt()


class ByChance(unittest.TestCase):
    def test_against_the_model(self):
        for turn in range(400):
            case = Case(random.Random(turn))
            while len(case.calls) < 150 and sum(map(len, case.calls)) < 12000:
                case.one_more()
            for call, told, answer in zip(case.calls, run(*case.calls), case.answers):
                self.assertEqual(told, answer, call)


if __name__ == "__main__":
    unittest.main()
