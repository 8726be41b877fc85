"""The rules of a language: terms that tell a number's category."""

from saymessages.refusals import NotAllowed

CATEGORIES = ("zero", "one", "two", "few", "many", "other")
OTHER_CATEGORY = 5
MOST_TERMS = 32
NUMBERS_OF_A_TERM = 6
BOUND = 4294967296


class Term:
    def __init__(self, numbers):
        self.category = numbers[0]
        self.ends = numbers[1]
        self.outside = numbers[2]
        self.modulus = numbers[3]
        self.low = numbers[4]
        self.high = numbers[5]


def term_is_allowed(term):
    if term.category > OTHER_CATEGORY or term.ends > 1 or term.outside > 1:
        return False
    return term.modulus < BOUND and term.low < BOUND and term.high < BOUND


def read_terms(numbers):
    if len(numbers) % NUMBERS_OF_A_TERM != 0 or len(numbers) > MOST_TERMS * NUMBERS_OF_A_TERM:
        raise NotAllowed()
    terms = []
    for start in range(0, len(numbers), NUMBERS_OF_A_TERM):
        terms.append(Term(numbers[start:start + NUMBERS_OF_A_TERM]))
    for term in terms:
        if not term_is_allowed(term):
            raise NotAllowed()
    if terms and terms[-1].ends == 0:
        raise NotAllowed()
    return terms


def term_holds(term, size):
    told = size if term.modulus == 0 else size % term.modulus
    inside = term.low <= told <= term.high
    return not inside if term.outside == 1 else inside


def category_of(terms, value):
    size = abs(value)
    holds = True
    for term in terms:
        holds = holds and term_holds(term, size)
        if term.ends == 1 and holds:
            return term.category
        if term.ends == 1:
            holds = True
    return OTHER_CATEGORY
