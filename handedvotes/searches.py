"""Searches: whether a roll of some papers shows what a question asks, by the plain count.

In each of them a roll is told by numbers, one for each of some kinds. The first places of them are
those of the kinds that the papers of an answer's first roll (of "halves", of both together) have;
shown_from tells the numbers of all rolls of an answer with such a first one, or None.
"""

from handedvotes.counts import course
from handedvotes.papers import raised
from handedvotes.plans import is_better
from handedvotes.rolls import Roll
from handedvotes.rules import winners_of
from handedvotes.spreads import parts_of


class Counted:
    """Rolls with papers of some kinds; what was counted once is kept."""

    def __init__(self, rule, kinds):
        self.rule = rule
        self.kinds = kinds
        self.courses = {}
        self.lots = {}

    def roll_of(self, numbers):
        """The roll with so many papers of each kind."""
        return Roll(self.rule.names, [(kind, many) for kind, many in zip(self.kinds, numbers) if many > 0])

    def course_of(self, numbers):
        """The course of a roll."""
        if numbers not in self.courses:
            self.courses[numbers] = course(self.rule, self.roll_of(numbers))
        return self.courses[numbers]

    def lot_of(self, numbers):
        """The winners of a roll."""
        if numbers not in self.lots:
            self.lots[numbers] = winners_of(self.rule, self.course_of(numbers))
        return self.lots[numbers]


class CourseSearch:
    """Of a roll with a course."""

    def __init__(self, rule, told, kinds):
        self.counted = Counted(rule, kinds)
        self.places = len(kinds)
        self.told = told

    def shown_from(self, numbers):
        """A roll with the course."""
        return (numbers,) if self.counted.course_of(numbers) == self.told else None


class RaiseSearch:
    """Of a name that loses by more support."""

    def __init__(self, rule, name, kinds):
        moves = [(kind, raised(kind, name)) for kind in kinds if kind[0] != name]
        kinds_behind = kinds + tuple([kind for _, kind in moves if kind not in kinds])
        self.counted = Counted(rule, kinds_behind)
        self.places = len(kinds)
        self.name = name
        self.moves = [(kinds_behind.index(ahead), kinds_behind.index(behind)) for ahead, behind in moves]
        self.none_behind = (0,) * (len(kinds_behind) - len(kinds))

    def shown_from(self, numbers):
        """The roll ahead of the moves, and behind them."""
        ahead = numbers + self.none_behind
        if self.name not in self.counted.lot_of(ahead):
            return None
        for moved in parts_of([numbers[at] for at, to in self.moves]):
            behind = self.numbers_behind(ahead, moved)
            if self.name not in self.counted.lot_of(behind):
                return (ahead, behind)
        return None

    def numbers_behind(self, numbers, moved):
        """The numbers behind moves of so many papers."""
        changed = list(numbers)
        for (at, to), many in zip(self.moves, moved):
            changed[at] = changed[at] - many
            changed[to] = changed[to] + many
        return tuple(changed)


class StaySearch:
    """Of those who write a paper and do better to stay away."""

    def __init__(self, rule, paper, kinds):
        self.is_in_range = paper in kinds
        coming = kinds if self.is_in_range else kinds + (paper,)
        self.counted = Counted(rule, coming)
        self.places = len(coming)
        self.paper = paper
        self.at = coming.index(paper)

    def shown_from(self, numbers):
        """The roll with the papers, and the one without."""
        there = numbers[self.at]
        # Those that are not of the range have all to stay away, and some paper has to be left.
        fewest = 1 if self.is_in_range else max(there, 1)
        for many in range(fewest, min(there, sum(numbers) - 1) + 1):
            without = numbers[:self.at] + (there - many,) + numbers[self.at + 1:]
            if is_better(self.paper, self.counted.lot_of(without), self.counted.lot_of(numbers)):
                return (numbers, without)
        return None


class HalvesSearch:
    """Of two rolls with the same winners that have others together."""

    def __init__(self, rule, kinds):
        self.counted = Counted(rule, kinds)
        self.places = len(kinds)

    def shown_from(self, numbers):
        """The two rolls, and both together."""
        lot = self.counted.lot_of(numbers)
        most = sum(numbers) // 2
        for one in parts_of(numbers):
            # The smaller one of the two is enough to go through.
            if 1 <= sum(one) <= most and self.counted.lot_of(one) != lot:
                other = tuple([many - some for many, some in zip(numbers, one)])
                if self.counted.lot_of(other) == self.counted.lot_of(one):
                    return self.in_order(one, other) + (numbers,)
        return None

    def in_order(self, one, other):
        """Two rolls, the one with the lesser course first; they have unlike ones."""
        if self.counted.course_of(one) < self.counted.course_of(other):
            return (one, other)
        return (other, one)


class PartSearch:
    """Of a roll that two rules part at."""

    def __init__(self, rule, other, kinds):
        self.counted = Counted(rule, kinds)
        self.places = len(kinds)
        self.by_other = Counted(other, kinds)

    def shown_from(self, numbers):
        """A roll with unlike winners by both rules."""
        return (numbers,) if self.counted.lot_of(numbers) != self.by_other.lot_of(numbers) else None


def search_of(rule, question, kinds):
    """The search for rolls that show what a question asks."""
    word = question[0]
    if word == "course":
        return CourseSearch(rule, question[1], kinds)
    if word == "raise":
        return RaiseSearch(rule, question[1], kinds)
    if word == "stay":
        return StaySearch(rule, question[1], kinds)
    if word == "part":
        return PartSearch(rule, question[1], kinds)
    return HalvesSearch(rule, kinds)
