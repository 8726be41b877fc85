"""The rules of a language: terms that tell a number's category."""

from saymessages.refusals import NotAllowed

CATEGORIES = ("zero", "one", "two", "few", "many", "other")
OTHER_CATEGORY = 5
MOST_TERMS = 32
NUMBERS_OF_A_TERM = 6
BOUND = 4294967296


class Term:
    def __init__(self, numbers):
        self.category = numbers[0]
        self.ends = numbers[1]
        self.outside = numbers[2]
        self.modulus = numbers[3]
        self.low = numbers[4]
        self.high = numbers[5]


# In the order in which a term is told.
def numbers_of(term):
    return [term.category, term.ends, term.outside, term.modulus, term.low, term.high]


def term_is_allowed(term):
    if term.category > OTHER_CATEGORY or term.ends > 1 or term.outside > 1:
        return False
    return term.modulus < BOUND and term.low < BOUND and term.high < BOUND


def read_term(numbers):
    if len(numbers) != NUMBERS_OF_A_TERM:
        raise NotAllowed()
    term = Term(numbers)
    if not term_is_allowed(term):
        raise NotAllowed()
    return term


# Whether no term is left over behind the last alternative.
def terms_end(terms):
    return len(terms) == 0 or terms[-1].ends == 1


def read_terms(numbers):
    if len(numbers) > MOST_TERMS * NUMBERS_OF_A_TERM:
        raise NotAllowed()
    terms = []
    for start in range(0, len(numbers), NUMBERS_OF_A_TERM):
        terms.append(read_term(numbers[start:start + NUMBERS_OF_A_TERM]))
    if not terms_end(terms):
        raise NotAllowed()
    return terms


def term_holds(term, size):
    told = size if term.modulus == 0 else size % term.modulus
    inside = term.low <= told <= term.high
    return not inside if term.outside == 1 else inside


def category_of(terms, value):
    size = abs(value)
    holds = True
    for term in terms:
        holds = holds and term_holds(term, size)
        if term.ends == 1 and holds:
            return term.category
        if term.ends == 1:
            holds = True
    return OTHER_CATEGORY
