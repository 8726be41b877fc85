"""The refusals. Each bears the number that is answered and the row that stands beside it."""


class Refused(Exception):
    def __init__(self, refusal, row):
        self.refusal = refusal
        self.row = row


# What is handed over is no tag, no key, no rules, or is too large.
class NotAllowed(Refused):
    def __init__(self):
        Refused.__init__(self, -1, [])


class NoLanguage(Refused):
    def __init__(self):
        Refused.__init__(self, -3, [])


# Where a message by that key was looked for there is none, or there are no more keys than that.
class NoMessage(Refused):
    def __init__(self):
        Refused.__init__(self, -4, [])


# A language's way would lead back to the language.
class ComesRound(Refused):
    def __init__(self):
        Refused.__init__(self, -5, [])


# A text is no message: none goes on at this place.
class Faulty(Refused):
    def __init__(self, place):
        Refused.__init__(self, -6, [place])


# A text is no kit's text: this is its first wrong line.
class WrongLine(Refused):
    def __init__(self, line):
        Refused.__init__(self, -6, [line])


# Arguments are wanted: their slots as bits.
class Wanted(Refused):
    def __init__(self, slots):
        Refused.__init__(self, -7, [slots])


# There are as many languages, or messages of a language, as there may be.
class Full(Refused):
    def __init__(self):
        Refused.__init__(self, -9, [])
