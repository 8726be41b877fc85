"""The calls. Each is handed the kit, its whole numbers and its rows, and gives its answer or is refused.

What may be refused is asked before anything is changed, in the order in which the refusals count.
"""

from saymessages.display import display_parts
from saymessages.figures import within_64_bits
from saymessages.languages import (NO_TAG, check_key, check_length, check_separator, check_tag, drop_message,
                                   first_on_way, put_message)
from saymessages.loading import read_languages
from saymessages.reader import read_message
from saymessages.refusals import NoMessage, NotAllowed, Wanted
from saymessages.rows import joined_by_blanks
from saymessages.saving import text_of_languages
from saymessages.surveys import lacked_keys, odd_keys, own_keys
from saymessages.terms import category_of, read_terms

LARGEST_SLOT = 15
LONGEST_TEXT = 64


class Answer:
    def __init__(self, number, row, text):
        self.number = number
        self.row = row
        self.text = text


def number_alone(number):
    return Answer(number, [], [])


def check_tag_and_key(rows):
    check_tag(rows[0])
    check_key(rows[1])


def check_slot(slot):
    if slot > LARGEST_SLOT:
        raise NotAllowed()


def check_value(value):
    if not within_64_bits(value):
        raise NotAllowed()


def asked_message(kit, rows):
    check_tag_and_key(rows)
    found = first_on_way(kit.way_of(rows[0]), rows[1])
    if found is None:
        raise NoMessage()
    return found


def key_at(place, keys):
    if place >= len(keys):
        raise NoMessage()
    return Answer(0, [], keys[place])


def displayed(kit, found):
    return display_parts(found.message.parts, kit.arguments, found.language)


def call_language(kit, numbers, rows):
    check_tag(rows[0])
    if rows[1] != NO_TAG:
        check_tag(rows[1])
    check_separator(rows[2])
    was_there = kit.set_language(rows[0], rows[1], rows[2])
    return number_alone(1 if was_there else 0)


def call_rules(kit, numbers, rows):
    check_tag(rows[0])
    terms = read_terms(rows[1])
    language = kit.language_by(rows[0])
    language.terms = terms
    return number_alone(len(terms))


def call_put(kit, numbers, rows):
    check_tag_and_key(rows)
    check_length(rows[2])
    language = kit.language_by(rows[0])
    was_there = put_message(language, rows[1], read_message(rows[2]))
    return number_alone(1 if was_there else 0)


def call_drop(kit, numbers, rows):
    check_tag_and_key(rows)
    drop_message(kit.language_by(rows[0]), rows[1])
    return number_alone(0)


def call_judge(kit, numbers, rows):
    check_length(rows[0])
    return Answer(0, read_message(rows[0]).named, [])


def call_number(kit, numbers, rows):
    check_slot(numbers[0])
    check_value(numbers[1])
    kit.arguments[numbers[0]] = numbers[1]
    return number_alone(0)


def call_word(kit, numbers, rows):
    check_slot(numbers[0])
    if len(rows[0]) > LONGEST_TEXT:
        raise NotAllowed()
    kit.arguments[numbers[0]] = rows[0]
    return number_alone(0)


def call_clear(kit, numbers, rows):
    kit.arguments = {}
    return number_alone(0)


def call_show(kit, numbers, rows):
    found = asked_message(kit, rows)
    shown = displayed(kit, found)
    if shown.wanted != 0:
        raise Wanted(shown.wanted)
    return Answer(0, [found.steps], shown.text)


def call_wants(kit, numbers, rows):
    return number_alone(displayed(kit, asked_message(kit, rows)).wanted)


def call_slots(kit, numbers, rows):
    found = asked_message(kit, rows)
    return Answer(found.steps, found.message.named, [])


def call_text(kit, numbers, rows):
    found = asked_message(kit, rows)
    return Answer(found.steps, [], found.message.text)


def call_category(kit, numbers, rows):
    check_value(numbers[0])
    check_tag(rows[0])
    return number_alone(category_of(kit.language_by(rows[0]).terms, numbers[0]))


def call_keys(kit, numbers, rows):
    check_tag(rows[0])
    return number_alone(len(own_keys(kit, rows[0])))


def call_key(kit, numbers, rows):
    check_tag(rows[0])
    return key_at(numbers[0], own_keys(kit, rows[0]))


def call_lacks(kit, numbers, rows):
    check_tag(rows[0])
    return number_alone(len(lacked_keys(kit, rows[0])))


def call_lack(kit, numbers, rows):
    check_tag(rows[0])
    return key_at(numbers[0], lacked_keys(kit, rows[0]))


def call_odds(kit, numbers, rows):
    check_tag(rows[0])
    return number_alone(len(odd_keys(kit, rows[0])))


def call_odd(kit, numbers, rows):
    check_tag(rows[0])
    return key_at(numbers[0], odd_keys(kit, rows[0]))


def call_chain(kit, numbers, rows):
    check_tag(rows[0])
    tags = [language.tag for language in kit.way_of(rows[0])]
    return Answer(len(tags), [], joined_by_blanks(tags))


def call_save(kit, numbers, rows):
    return Answer(0, [], text_of_languages(kit.languages))


def call_load(kit, numbers, rows):
    kit.languages = read_languages(rows[0])
    return number_alone(len(kit.languages))


# By each call's number: its function, how many whole numbers it is handed, and how many rows.
CALLS = {
    1: (call_language, 0, 3),
    2: (call_rules, 0, 2),
    3: (call_put, 0, 3),
    4: (call_drop, 0, 2),
    5: (call_judge, 0, 1),
    6: (call_number, 2, 0),
    7: (call_word, 1, 1),
    8: (call_clear, 0, 0),
    9: (call_show, 0, 2),
    10: (call_wants, 0, 2),
    11: (call_slots, 0, 2),
    12: (call_text, 0, 2),
    13: (call_category, 1, 1),
    14: (call_keys, 0, 1),
    15: (call_key, 1, 1),
    16: (call_lacks, 0, 1),
    17: (call_lack, 1, 1),
    18: (call_odds, 0, 1),
    19: (call_odd, 1, 1),
    20: (call_chain, 0, 1),
    21: (call_save, 0, 0),
    22: (call_load, 0, 1),
}
