"""The count of a roll by a rule, stage by stage."""

from handedvotes.errors import BadNames
from handedvotes.rules import has_ended, units, winners_of, without_name
from handedvotes.worths import first_worths, handed_on, pile_weights, stands


def stages(rule, roll):
    """For each step the piles ahead of it, and the step."""
    if roll.names != rule.names:
        raise BadNames(roll.names)
    found = []
    papers = [paper for paper, many in roll.papers]
    numbers = [many for paper, many in roll.papers]
    worths = first_worths(rule, papers)
    going = rule.names
    seats = rule.seats
    while not has_ended(going, seats):
        standing = stands(papers, going)
        piles = tuple([(name, _pile(numbers, pile_weights(worths, standing, name))) for name in going])
        step = next_step(rule, piles, roll.total())
        found.append((piles, step))
        worths = handed_on(rule, worths, standing, step)
        going = without_name(going, step[1])
        if step[0] == "in":
            seats = seats - 1
    return tuple(found)


def course(rule, roll):
    """The steps of the count."""
    return tuple([step for piles, step in stages(rule, roll)])


def winners(rule, roll):
    """The lot of the names that come in, at the end, too."""
    return winners_of(rule, course(rule, roll))


def next_step(rule, piles, total):
    """The step that the piles of the names that go on lead to, of so many papers in all."""
    table = dict(piles)
    going = [name for name in rule.order if name in table]
    # Of equal ones max and min take the first, so the order settles the ties.
    greatest = max(going, key=lambda name: table[name])
    if _has_quota(rule, table[greatest], total):
        return ("in", greatest)
    return ("out", min(going[::-1], key=lambda name: table[name]))


def _has_quota(rule, pile, total):
    low, high = rule.quota
    over = pile * high - low * total * units(rule)
    return over > 0 if rule.over else over >= 0


def _pile(numbers, weights):
    return sum([many * weight for many, weight in zip(numbers, weights)])
