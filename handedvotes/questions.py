"""Questions on all rolls of a range, and their answers."""

from handedvotes.cells import are_bars, decided, holds
from handedvotes.errors import BadAnswer, BadQuestion, TooMany
from handedvotes.forms import is_same
from handedvotes.papers import is_paper, need_kinds
from handedvotes.plans import plan_of
from handedvotes.rolls import Roll
from handedvotes.rules import Rule, is_course

MOST_NAMES_ASKED = 3


def calls(rule, question, kinds):
    """What the systems of a question are called."""
    return need_plan(rule, question, kinds).calls


def systems(rule, question, kinds):
    """The systems of a question, in the order of what they are called."""
    plan = need_plan(rule, question, kinds)
    return tuple([plan.system(call) for call in plan.calls])


def answer(rule, question, kinds):
    """Bars of all systems of a question, or rolls from a solution of one of them."""
    plan = need_plan(rule, question, kinds)
    bars = []
    for call in plan.calls:
        word, found = decided(plan.system(call))
        if word == "solution":
            return ("rolls", call, tuple([Roll(rule.names, papers) for papers in plan.papers_of(found)]))
        bars.append(found)
    return ("never", tuple(bars))


def check(rule, question, kinds, thing):
    """The first word of an answer, if the value is one."""
    plan = need_plan(rule, question, kinds)
    word = _need_form(thing)
    if word == "never":
        _need_bars(plan, thing[1])
    else:
        _need_rolls(plan, rule.names, thing[1], thing[2])
    return word


def is_never(rule, question, kinds):
    """Whether no rolls show what is asked."""
    return answer(rule, question, kinds)[0] == "never"


def need_question(rule, question, kinds):
    """Refuses what is no question of the rule, what is no range, and too many names."""
    if not _is_question(rule, question):
        raise BadQuestion(question)
    need_kinds(rule.names, kinds)
    if question[0] != "course" and len(rule.names) > MOST_NAMES_ASKED:
        raise TooMany(MOST_NAMES_ASKED)


def need_plan(rule, question, kinds):
    """The plan of a question over a range."""
    need_question(rule, question, kinds)
    return plan_of(rule, question, kinds)


def _is_question(rule, thing):
    if not isinstance(thing, tuple) or not 1 <= len(thing) <= 2 or not isinstance(thing[0], str):
        return False
    if len(thing) == 1:
        return thing[0] == "halves"
    return _can_ask(rule, thing[0], thing[1])


def _can_ask(rule, word, thing):
    """Whether a question of two items can begin with the word and go on with any value."""
    if word == "course":
        return is_course(rule, thing)
    if word == "raise":
        return isinstance(thing, str) and thing in rule.names
    if word == "stay":
        return is_paper(rule.names, thing)
    return word == "part" and isinstance(thing, Rule) and thing.names == rule.names


def _need_form(thing):
    if isinstance(thing, tuple) and 2 <= len(thing) <= 3:
        word = "never" if len(thing) == 2 else "rolls"
        if is_same(thing[0], word):
            return word
    raise BadAnswer("form")


def _need_bars(plan, thing):
    if not isinstance(thing, tuple) or len(thing) != len(plan.calls):
        raise BadAnswer("bars")
    for at, call in enumerate(plan.calls):
        if not are_bars(plan.system(call), thing[at]):
            raise BadAnswer(at)


def _need_rolls(plan, names, called, rolls):
    if not any([is_same(called, call) for call in plan.calls]):
        raise BadAnswer("called")
    if not _are_rolls(names, rolls, len(plan.brought)):
        raise BadAnswer("rolls")
    numbers = plan.unknowns_of(rolls)
    if not _can_bring(plan, numbers, rolls) or not holds(plan.system(called), numbers):
        raise BadAnswer("rolls")


def _are_rolls(names, thing, many):
    if not isinstance(thing, tuple) or len(thing) != many:
        return False
    return all([isinstance(roll, Roll) and roll.names == names for roll in thing])


def _can_bring(plan, numbers, rolls):
    """Whether numbers from 0 on bring just these rolls."""
    if min(numbers) < 0:
        return False
    return plan.papers_of(numbers) == [roll.papers for roll in rolls]
