"""Showing a message: its text for these arguments, or the arguments that are wanted."""

from saymessages.figures import in_decimal, in_groups
from saymessages.parts import ANY, CATEGORY, GROUP, PLURAL, SAME, SELECT
from saymessages.terms import category_of


# The text that is shown, and the slots that are wanted, as bits.
class Display:
    def __init__(self):
        self.text = []
        self.wanted = 0


# Texts are kept as tuples of bytes, so that an argument's kind is seen by itself.
def is_filled(hole, arguments):
    if hole.slot not in arguments:
        return False
    if hole.kind == SELECT:
        return isinstance(arguments[hole.slot], tuple)
    return hole.kind == ANY or isinstance(arguments[hole.slot], int)


def parts_taken(hole, argument, terms):
    category = category_of(terms, argument) if hole.kind == PLURAL else None
    for branch in hole.branches:
        if branch.kind == SAME and branch.fitting == argument:
            return branch.parts
        if branch.kind == CATEGORY and branch.fitting == category:
            return branch.parts
    return hole.branches[-1].parts


def text_of(hole, argument, separator):
    if hole.kind == GROUP:
        return in_groups(argument, separator)
    return in_decimal(argument) if isinstance(argument, int) else argument


def display_parts(parts, arguments, language):
    shown = Display()
    left = list(reversed(parts))
    while left:
        part = left.pop()
        if isinstance(part, int):
            shown.text.append(part)
        elif not is_filled(part, arguments):
            shown.wanted |= 1 << part.slot
        elif part.branches:
            left.extend(list(reversed(parts_taken(part, arguments[part.slot], language.terms))))
        else:
            shown.text.extend(text_of(part, arguments[part.slot], language.separator))
    return shown
