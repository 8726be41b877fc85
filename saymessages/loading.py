"""Reading a kit's text: its languages, up to the first wrong line.

Whatever is refused while a line is read, with the bytes of its message if it has one, makes that line wrong.
"""

from saymessages.figures import from_decimal, from_hexadecimal
from saymessages.languages import (NO_TAG, add_language, check_key, check_length, check_separator, check_tag,
                                   put_message, ways_end)
from saymessages.reader import read_message
from saymessages.refusals import Full, NotAllowed, Refused, WrongLine
from saymessages.rows import LINE_FEED, bytes_of, split_at_blanks
from saymessages.saving import HEAD, LANGUAGE, MESSAGE, NOTHING, RULE
from saymessages.terms import MOST_TERMS, read_term, terms_end


def read_fallback(field):
    if field == bytes_of(NOTHING):
        return NO_TAG
    check_tag(field)
    return field


def read_separator(field):
    if field == bytes_of(NOTHING):
        return ()
    separator = from_hexadecimal(field)
    if len(separator) == 0:
        raise NotAllowed()
    check_separator(separator)
    return separator


# line is the number of the line that is read next; language is the one whose rules and messages come.
class Loader:
    def __init__(self, text):
        self.text = text
        self.place = 0
        self.line = 0
        self.languages = {}
        self.language = None
        self.last_key = ()

    def is_over(self):
        return self.place == len(self.text)

    # So many bytes, behind which a line feed must stand.
    def next_bytes(self, length):
        end = self.place + length
        if end >= len(self.text) or self.text[end] != LINE_FEED:
            raise NotAllowed()
        taken = self.text[self.place:end]
        self.place = end + 1
        return taken

    def next_fields(self):
        length = 0
        while self.place + length < len(self.text) and self.text[self.place + length] != LINE_FEED:
            length += 1
        return split_at_blanks(self.next_bytes(length))

    # A rule that doesn't end its alternative may stand before another rule alone.
    def rules_end(self):
        return self.language is None or terms_end(self.language.terms)

    def load_language(self, fields):
        if not self.rules_end() or len(fields) != 3 or fields[0] in self.languages:
            raise NotAllowed()
        check_tag(fields[0])
        add_language(self.languages, fields[0])
        language = self.languages[fields[0]]
        language.fallback = read_fallback(fields[1])
        language.separator = read_separator(fields[2])
        self.language = language
        self.last_key = ()

    def load_rule(self, fields):
        if self.language is None or self.language.messages:
            raise NotAllowed()
        if len(self.language.terms) == MOST_TERMS:
            raise Full()
        self.language.terms.append(read_term([from_decimal(field) for field in fields]))

    def load_message(self, fields):
        if self.language is None or not self.rules_end() or len(fields) != 2 or fields[0] <= self.last_key:
            raise NotAllowed()
        check_key(fields[0])
        text = self.next_bytes(from_decimal(fields[1]))
        check_length(text)
        put_message(self.language, fields[0], read_message(text))
        self.last_key = fields[0]

    def load_entry(self):
        fields = self.next_fields()
        if self.line == 0:
            if fields != [bytes_of(HEAD)]:
                raise NotAllowed()
        elif fields[0] == bytes_of(LANGUAGE):
            self.load_language(fields[1:])
        elif fields[0] == bytes_of(RULE):
            self.load_rule(fields[1:])
        elif fields[0] == bytes_of(MESSAGE):
            self.load_message(fields[1:])
        else:
            raise NotAllowed()

    def load_next(self):
        start = self.place
        try:
            self.load_entry()
        except Refused:
            raise WrongLine(self.line)
        self.line += self.text[start:self.place].count(LINE_FEED)


def read_languages(text):
    loader = Loader(text)
    loader.load_next()
    while not loader.is_over():
        loader.load_next()
    if not loader.rules_end() or not ways_end(loader.languages):
        raise WrongLine(loader.line)
    return loader.languages
