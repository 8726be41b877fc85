"""Writing the kit's text: its languages, line by line."""

from saymessages.figures import in_decimal, in_hexadecimal
from saymessages.languages import NO_TAG
from saymessages.rows import LINE_FEED, bytes_of, joined_by_blanks
from saymessages.terms import numbers_of

HEAD = "say"
LANGUAGE = "language"
RULE = "rule"
MESSAGE = "message"
NOTHING = "-"


def line_of(fields):
    return joined_by_blanks(fields) + [LINE_FEED]


def language_line(language):
    fallback = bytes_of(NOTHING) if language.fallback == NO_TAG else language.fallback
    separator = in_hexadecimal(language.separator) if language.separator else bytes_of(NOTHING)
    return line_of([bytes_of(LANGUAGE), language.tag, fallback, separator])


def rule_line(term):
    return line_of([bytes_of(RULE)] + [in_decimal(number) for number in numbers_of(term)])


def message_lines(key, message):
    lines = line_of([bytes_of(MESSAGE), key, in_decimal(len(message.text))])
    lines.extend(message.text)
    lines.append(LINE_FEED)
    return lines


def language_lines(language):
    lines = language_line(language)
    for term in language.terms:
        lines.extend(rule_line(term))
    for key in sorted(language.messages):
        lines.extend(message_lines(key, language.messages[key]))
    return lines


def text_of_languages(languages):
    text = line_of([bytes_of(HEAD)])
    for tag in languages:
        text.extend(language_lines(languages[tag]))
    return text
