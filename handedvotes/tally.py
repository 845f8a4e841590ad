"""A count that is led round by round, and trials of it."""

from handedvotes.counts import Count, need_same_names
from handedvotes.errors import BadNumber, BadPaper
from handedvotes.forms import is_integer, is_within
from handedvotes.papers import is_paper
from handedvotes.rolls import Roll
from handedvotes.rules import winners_of


class Tally:
    """A count that is led round by round; papers may come to it, and deeds be taken back."""

    def __init__(self, rule, roll):
        need_same_names(rule, roll)
        self._rule = rule
        self._roll = roll
        self._steps = ()
        # The roll and the steps ahead of each deed that was not taken back.
        self._past = []

    @property
    def roll(self):
        """The roll now."""
        return self._roll

    def __len__(self):
        return len(self._steps)

    def __eq__(self, other):
        return (isinstance(other, Tally) and self._rule == other._rule
                and self._roll == other._roll and self._steps == other._steps)

    def steps(self):
        """The course so far."""
        return self._steps

    def is_over(self):
        """Whether the count has ended."""
        return self._count().is_over()

    def piles(self):
        """The piles of the names of which there is no step, ascending."""
        return self._count().piles()

    def winners(self):
        """The lot of the names that have come in so far; all winners if the count has ended."""
        if self.is_over():
            return winners_of(self._rule, self._steps)
        return tuple(sorted([name for word, name in self._steps if word == "in"]))

    def step(self):
        """Takes the next step; None if the count has ended."""
        count = self._count()
        if count.is_over():
            return None
        taken = count.next_step()
        self._keep_past()
        self._steps = self._steps + (taken,)
        return taken

    def add(self, paper, many=1):
        """So many papers more; the count begins anew."""
        if not is_paper(self._rule.names, paper):
            raise BadPaper(paper)
        if not is_integer(many) or many < 1:
            raise BadNumber(many)
        more = self._roll + Roll(self._rule.names, [(paper, many)])
        self._keep_past()
        self._roll = more
        self._steps = ()

    def undo(self, many=1):
        """Takes back so many deeds, the last ones."""
        if not is_within(many, 1, len(self._past)):
            raise BadNumber(many)
        self._roll, self._steps = self._past[-many]
        del self._past[-many:]

    def trial(self):
        """What a with statement enters to try something."""
        return Trial(self)

    def _keep_past(self):
        self._past.append((self._roll, self._steps))

    def _count(self):
        """The count behind the steps so far."""
        count = Count(self._rule, self._roll)
        for step in self._steps:
            count.take(step)
        return count


class Trial:
    """A block in which a tally may change; behind it the tally is what it was."""

    def __init__(self, tally):
        self.tally = tally

    def __enter__(self):
        self.roll_ahead = self.tally._roll
        self.steps_ahead = self.tally._steps
        # The block changes the tally's own list; it may even take back what was ahead of it.
        self.past_ahead = list(self.tally._past)
        return self.tally

    def __exit__(self, kind, value, trace):
        tally = self.tally
        tally._roll = self.roll_ahead
        tally._steps = self.steps_ahead
        tally._past = self.past_ahead


def tried(tally, function):
    """What a function returns of the tally in a trial."""
    with tally.trial() as same:
        return function(same)
