"""The languages of a kit, their ways, and the arguments that are there."""

from saymessages.refusals import ComesRound, Full, NoLanguage, NoMessage, NotAllowed
from saymessages.rows import is_of

TAG_SIGNS = "abcdefghijklmnopqrstuvwxyz0123456789-"
KEY_SIGNS = "abcdefghijklmnopqrstuvwxyz0123456789_-."
LONGEST_TAG = 12
LONGEST_KEY = 24
LONGEST_SEPARATOR = 4
LONGEST_MESSAGE = 1024
MOST_LANGUAGES = 12
MOST_MESSAGES = 48
NO_TAG = ()


# fallback is a tag, or NO_TAG; messages are kept by their keys.
class Language:
    def __init__(self, tag):
        self.tag = tag
        self.fallback = NO_TAG
        self.separator = ()
        self.terms = []
        self.messages = {}


# A message, the language that has it, and how many languages on the way that one is.
class Found:
    def __init__(self, steps, language, message):
        self.steps = steps
        self.language = language
        self.message = message


# Languages by their tags, in the order in which they came; arguments by their slots.
class Kit:
    def __init__(self):
        self.languages = {}
        self.arguments = {}

    def language_by(self, tag):
        if tag not in self.languages:
            raise NoLanguage()
        return self.languages[tag]

    def way_of(self, tag):
        way = [self.language_by(tag)]
        while way[-1].fallback != NO_TAG:
            way.append(self.languages[way[-1].fallback])
        return way

    def check_fallback(self, tag, fallback):
        if fallback != NO_TAG and tag in [language.tag for language in self.way_of(fallback)]:
            raise ComesRound()

    # Answers whether the language was there.
    def set_language(self, tag, fallback, separator):
        self.check_fallback(tag, fallback)
        was_there = tag in self.languages
        if not was_there:
            add_language(self.languages, tag)
        language = self.languages[tag]
        language.fallback = fallback
        language.separator = separator
        return was_there


def add_language(languages, tag):
    if len(languages) == MOST_LANGUAGES:
        raise Full()
    languages[tag] = Language(tag)


# None if no language on the way has a message by that key.
def first_on_way(way, key):
    for steps, language in enumerate(way):
        if key in language.messages:
            return Found(steps, language, language.messages[key])
    return None


# Whether each language falls back on one that is there, and no way comes round.
def ways_end(languages):
    for tag in languages:
        steps = 0
        fallback = languages[tag].fallback
        while fallback != NO_TAG:
            steps += 1
            if fallback not in languages or steps == len(languages):
                return False
            fallback = languages[fallback].fallback
    return True


# Answers whether another message was in that place.
def put_message(language, key, message):
    was_there = key in language.messages
    if not was_there and len(language.messages) == MOST_MESSAGES:
        raise Full()
    language.messages[key] = message
    return was_there


def drop_message(language, key):
    if key not in language.messages:
        raise NoMessage()
    language.messages.pop(key)


def check_tag(tag):
    if not 1 <= len(tag) <= LONGEST_TAG or not is_of(tag, TAG_SIGNS) or tag[0] == ord("-"):
        raise NotAllowed()


def check_key(key):
    if not 1 <= len(key) <= LONGEST_KEY or not is_of(key, KEY_SIGNS):
        raise NotAllowed()


def check_separator(separator):
    if len(separator) > LONGEST_SEPARATOR:
        raise NotAllowed()


def check_length(message):
    if len(message) > LONGEST_MESSAGE:
        raise NotAllowed()
