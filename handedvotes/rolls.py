"""Rolls: how many papers of each kind there are."""

from handedvotes.errors import BadNames, BadNumber, BadPaper, BadRoll
from handedvotes.forms import is_integer, is_pair, is_within
from handedvotes.papers import is_paper, need_names


class Roll:
    """A roll on names; papers is the ascending tuple of pairs (paper, number)."""

    def __init__(self, names, papers):
        self.names = need_names(names)
        self.papers = _need_papers(names, papers)

    def __getitem__(self, at):
        """How many papers of a kind there are."""
        return dict(self.papers).get(_need_paper(self.names, at), 0)

    def __iter__(self):
        raise TypeError("a roll is not iterated over")

    def __len__(self):
        """How many kinds there are of which there is a paper."""
        return len(self.papers)

    def __eq__(self, other):
        return isinstance(other, Roll) and self.names == other.names and self.papers == other.papers

    def __add__(self, other):
        """Both rolls together."""
        if not isinstance(other, Roll):
            return NotImplemented
        if other.names != self.names:
            raise BadNames(other.names)
        return self._changed(other.papers)

    def __mul__(self, other):
        """Each paper so many times."""
        if not is_integer(other):
            return NotImplemented
        if other < 1:
            raise BadNumber(other)
        return Roll(self.names, [(paper, many * other) for paper, many in self.papers])

    def total(self):
        """How many papers there are."""
        return sum([many for paper, many in self.papers])

    def without(self, paper, many=1):
        """The roll with so many papers of a kind less."""
        there = self[paper]
        # A roll has at least one paper, so the last one cannot be taken.
        if not is_within(many, 1, min(there, self.total() - 1)):
            raise BadNumber(many)
        return self._changed([(paper, -many)])

    def exchanged(self, paper, other, many=1):
        """The roll with so many papers of a kind less, and as many of another one more."""
        there = self[paper]
        _need_paper(self.names, other)
        if not is_within(many, 1, there):
            raise BadNumber(many)
        return self._changed([(paper, -many), (other, many)])

    def _changed(self, changes):
        numbers = dict(self.papers)
        for paper, change in changes:
            numbers[paper] = numbers.get(paper, 0) + change
        return Roll(self.names, [(paper, many) for paper, many in numbers.items() if many > 0])


def _need_paper(names, thing):
    if not is_paper(names, thing):
        raise BadPaper(thing)
    return thing


def _need_papers(names, papers):
    if not isinstance(papers, (list, tuple)) or len(papers) == 0:
        raise BadRoll(None)
    numbers = {}
    for at, item in enumerate(papers):
        if not _is_item(names, item) or item[0] in numbers:
            raise BadRoll(at)
        numbers[item[0]] = item[1]
    return tuple(sorted(numbers.items()))


def _is_item(names, thing):
    return is_pair(thing) and is_paper(names, thing[0]) and is_integer(thing[1]) and thing[1] >= 1
