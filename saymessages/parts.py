"""What a message is made of, once it is read.

A message's parts are its bytes, as whole numbers, and holes, which arguments fill.
"""

ANY = "any"
GROUP = "group"
PLURAL = "plural"
SELECT = "select"

CATEGORY = "category"
SAME = "same"
OTHER = "other"


# Its text, as it was read, its parts, and the slots that it names as any, as a number, as a text, each as bits.
class Message:
    def __init__(self, text, parts, named):
        self.text = text
        self.parts = parts
        self.named = named


# An argument's place: ANY, GROUP, or branches, PLURAL or SELECT, of which the last is OTHER.
class Hole:
    def __init__(self, kind, slot, branches):
        self.kind = kind
        self.slot = slot
        self.branches = branches


# Its key fits a number of a CATEGORY, the SAME number or text, or is the OTHER.
class Branch:
    def __init__(self, kind, fitting):
        self.kind = kind
        self.fitting = fitting
        self.parts = []
