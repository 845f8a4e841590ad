"""Which courses, winners and names the rolls of a range can have."""

from handedvotes.errors import TooMany
from handedvotes.papers import need_kinds
from handedvotes.questions import answer
from handedvotes.rules import all_courses, winners_of

MOST_KINDS = 15


def shown(rule, kinds):
    """For each course a roll that has it, or bars."""
    need_few_kinds(rule, kinds)
    return tuple([_shown_course(rule, course, kinds) for course in all_courses(rule)])


def possible_winners(rule, kinds):
    """All lots of winners, ascending."""
    lots = {}
    for course, word, _ in shown(rule, kinds):
        if word == "roll":
            lots[winners_of(rule, course)] = True
    return tuple(sorted(lots))


def can_win(rule, kinds):
    """The lot of the names that win at some roll."""
    lots = possible_winners(rule, kinds)
    return tuple([name for name in rule.names if any([name in lot for lot in lots])])


def need_few_kinds(rule, kinds):
    """Refuses what is no range, and a range of too many kinds."""
    need_kinds(rule.names, kinds)
    if len(kinds) > MOST_KINDS:
        raise TooMany(MOST_KINDS)


def _shown_course(rule, course, kinds):
    found = answer(rule, ("course", course), kinds)
    if found[0] == "rolls":
        return (course, "roll", found[2][0])
    return (course, "bars", found[1][0])
