"""What papers are worth, and with which names they stand, as the steps of a count go on."""

from handedvotes.rules import units

NO_PAPER = ()


def first_worths(rule, papers):
    """What each of some papers is worth at first; NO_PAPER is worth nothing."""
    worth = units(rule)
    return [worth if paper != NO_PAPER else 0 for paper in papers]


def stands(papers, going):
    """With which of the names that go on each of some papers stands, or None."""
    return [_first_going(paper, going) for paper in papers]


def pile_weights(worths, standing, name):
    """What each paper brings to the pile of a name."""
    return [worth if other == name else 0 for worth, other in zip(worths, standing)]


def handed_on(rule, worths, standing, step):
    """What each paper is worth behind a step."""
    word, name = step
    if word == "out":
        return worths
    low, high = rule.hand
    return [worth * low // high if other == name else worth for worth, other in zip(worths, standing)]


def _first_going(paper, going):
    for name in paper:
        if name in going:
            return name
    return None
