"""The smallest rolls that show what a question asks."""

from handedvotes.errors import BadNumber, TooMany
from handedvotes.forms import is_within
from handedvotes.questions import need_question
from handedvotes.searches import search_of
from handedvotes.spreads import spreads

MOST_PAPERS = 8
MOST_KINDS = 6


def smallest(rule, question, kinds, most):
    """The rolls of an answer with the fewest papers, at most so many, or None."""
    need_question(rule, question, kinds)
    if not is_within(most, 1, MOST_PAPERS):
        raise BadNumber(most)
    if len(kinds) > MOST_KINDS:
        raise TooMany(MOST_KINDS)
    search = search_of(rule, question, kinds)
    for many in range(1, most + 1):
        for numbers in spreads(many, search.places):
            found = search.shown_from(numbers)
            if found is not None:
                return tuple([search.counted.roll_of(one) for one in found])
    return None
