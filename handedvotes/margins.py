"""How near other winners are: papers to be exchanged, papers that come, papers that are missing still."""

from handedvotes.aims import Aim
from handedvotes.counts import need_same_names, winners
from handedvotes.courses import need_few_kinds
from handedvotes.errors import BadNumber
from handedvotes.forms import is_within
from handedvotes.rolls import Roll
from handedvotes.rules import all_courses, winners_of
from handedvotes.spreads import spreads

MOST_PAPERS = 3


def margin(rule, roll, kinds, most):
    """The fewest papers to be exchanged such that the winners are others, or None."""
    found = exchanges(rule, roll, kinds, most)
    return None if found is None else sum([many for paper, other, many in found])


def exchanges(rule, roll, kinds, most):
    """The exchanges of as few papers as margin tells, or None."""
    _need_range(rule, roll, kinds)
    _need_few(most)
    lot = winners(rule, roll)
    others = [course for course in all_courses(rule) if winners_of(rule, course) != lot]
    aims = [Aim(rule, course, roll, kinds, most) for course in others]
    for many in range(1, most + 1):
        for aim in aims:
            found = aim.exchange(many)
            if found is not None:
                return _triples(found[0], found[1])
    return None


def added(rule, roll, name, kinds, most):
    """The fewest papers of the range that have to come such that a name wins, or None."""
    _need_range(rule, roll, kinds)
    if not isinstance(name, str) or name not in rule.names:
        raise BadNumber(name)
    _need_few(most)
    for many in range(most + 1):
        if any([name in lot for lot in _lots_behind(rule, roll, kinds, many)]):
            return many
    return None


def missing(rule, roll, kinds, many):
    """The names that can win when so many papers are missing still, and those that surely do."""
    _need_range(rule, roll, kinds)
    _need_few(many)
    lots = _lots_behind(rule, roll, kinds, many)
    can = tuple([name for name in rule.names if any([name in lot for lot in lots])])
    return (can, tuple([name for name in can if all([name in lot for lot in lots])]))


def _need_range(rule, roll, kinds):
    need_same_names(rule, roll)
    need_few_kinds(rule, kinds)


def _need_few(thing):
    if not is_within(thing, 0, MOST_PAPERS):
        raise BadNumber(thing)


def _triples(going, coming):
    """Which paper is exchanged for which other one, and how many, ascending."""
    # As no fewer exchanges are enough, no paper comes for one that is alike.
    table = {}
    for pair in zip(going, coming):
        table[pair] = table.get(pair, 0) + 1
    return tuple(sorted([(paper, other, many) for (paper, other), many in table.items()]))


def _lots_behind(rule, roll, kinds, many):
    """The winners for each way in which so many papers of a range come to a roll."""
    if many == 0:
        return [winners(rule, roll)]
    lots = []
    for numbers in spreads(many, len(kinds)):
        coming = [(kind, some) for kind, some in zip(kinds, numbers) if some > 0]
        lots.append(winners(rule, roll + Roll(rule.names, coming)))
    return lots
