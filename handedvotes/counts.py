"""The count of a roll by a rule, stage by stage."""

from handedvotes.errors import BadNames
from handedvotes.rules import has_ended, units, winners_of, without_name
from handedvotes.worths import first_worths, handed_on, stands


class Count:
    """A count on its way: which names go on, how many seats are left, what each paper is worth."""

    def __init__(self, rule, roll):
        need_same_names(rule, roll)
        self.rule = rule
        self.papers = [paper for paper, many in roll.papers]
        self.numbers = [many for paper, many in roll.papers]
        self.worths = first_worths(rule, self.papers)
        self.going = rule.names
        self.seats = rule.seats
        self.standing = stands(self.papers, self.going)

    def is_over(self):
        """Whether there are no more rounds."""
        return has_ended(self.going, self.seats)

    def piles(self):
        """The piles of the names that go on, ascending."""
        table = {name: 0 for name in self.going}
        for name, many, worth in zip(self.standing, self.numbers, self.worths):
            if name is not None:
                table[name] = table[name] + many * worth
        return tuple(table.items())

    def next_step(self):
        """The step that the piles lead to, if the count is not over."""
        table = dict(self.piles())
        going = [name for name in self.rule.order if name in table]
        # Of equal ones max and min take the first, so the order settles the ties.
        greatest = max(going, key=lambda name: table[name])
        if self.has_quota(table[greatest]):
            return ("in", greatest)
        return ("out", min(going[::-1], key=lambda name: table[name]))

    def has_quota(self, pile):
        """Whether a pile is enough to come in."""
        low, high = self.rule.quota
        over = pile * high - low * sum(self.numbers) * units(self.rule)
        return over > 0 if self.rule.over else over >= 0

    def take(self, step):
        """Goes on behind a step."""
        self.worths = handed_on(self.rule, self.worths, self.standing, step)
        self.going = without_name(self.going, step[1])
        self.standing = stands(self.papers, self.going)
        if step[0] == "in":
            self.seats = self.seats - 1


def stages(rule, roll):
    """For each step the piles ahead of it, and the step."""
    found = []
    count = Count(rule, roll)
    while not count.is_over():
        step = count.next_step()
        found.append((count.piles(), step))
        count.take(step)
    return tuple(found)


def course(rule, roll):
    """The steps of the count."""
    return tuple([step for piles, step in stages(rule, roll)])


def winners(rule, roll):
    """The lot of the names that come in, at the end, too."""
    return winners_of(rule, course(rule, roll))


def need_same_names(rule, roll):
    """Refuses a roll on other names than those of a rule."""
    if roll.names != rule.names:
        raise BadNames(roll.names)
