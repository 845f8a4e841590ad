"""Whether some sums can be at least 0 together, by a table of whole numbers that is turned."""

_TURNS_FOR_EACH = 10


class Table:
    """Quantities that are all to be at least 0: the unknowns, then each row's sum, less 1 if strict.

    Each told quantity, times whole, is the sum of the free ones times the numbers of its line, and
    of the last number there. So these last numbers tell what it is while all free ones are 0. One
    line more, the last, tells what the unknowns cost together; the free ones never lower that.
    """

    def __init__(self, unknowns, rows):
        self.unknowns = unknowns
        self.free = list(range(unknowns))
        self.told = list(range(unknowns, unknowns + len(rows)))
        # A solution may be multiplied, so what is to be above 0 may be asked to be 1 at least.
        self.lines = [list(weights) + [-1 if strict else 0] for weights, strict in rows]
        # Any costs would do; with unlike ones fewer turns leave the cost as it is.
        self.lines.append(list(range(1, unknowns + 1)) + [0])
        self.whole = 1
        self.turns_left = _TURNS_FOR_EACH * (unknowns + len(rows))

    def settle(self):
        """Turns until no told quantity is below 0: None; or the place of one that has to be."""
        at = self.one_below()
        while at is not None:
            way = self.help_for(at)
            if way is None:
                return at
            self.turn(at, way)
            at = self.one_below()
        return None

    def one_below(self):
        """The place of a told quantity below 0, or None."""
        below = [at for at in range(len(self.told)) if self.lines[at][-1] < 0]
        if len(below) == 0:
            return None
        # To take the lowest one is fast, but turns may go round; the one numbered least ends that.
        if self.turns_left > 0:
            return min(below, key=lambda at: self.lines[at][-1])
        return min(below, key=lambda at: self.told[at])

    def help_for(self, at):
        """The place of the free quantity that lifts a told one at the least cost, or None."""
        found = None
        for way in range(self.unknowns):
            if self.lines[at][way] > 0 and (found is None or self.is_cheaper(at, way, found)):
                found = way
        return found

    def is_cheaper(self, at, way, other):
        """Whether a free quantity lifts a told one at less cost than another one that does."""
        line = self.lines[at]
        costs = self.lines[-1]
        return (costs[way] * line[other], self.free[way]) < (costs[other] * line[way], self.free[other])

    def turn(self, at, way):
        """A told quantity becomes free, and the free one that lifts it is told instead."""
        line = self.lines[at]
        lift = line[way]
        turned = []
        for other in self.lines:
            part = other[way]
            # All numbers are minors of the first table, so the division leaves no rest.
            new = [(lift * old - part * number) // self.whole for old, number in zip(other, line)]
            new[way] = part
            turned.append(new)
        turned[at] = [-number for number in line]
        turned[at][way] = self.whole
        self.lines = turned
        self.told[at], self.free[way] = self.free[way], self.told[at]
        self.whole = lift
        self.turns_left = self.turns_left - 1

    def solution(self):
        """The unknowns, times whole, when no told quantity is below 0."""
        numbers = [0] * self.unknowns
        for quantity, line in zip(self.told, self.lines):
            if quantity < self.unknowns:
                numbers[quantity] = line[-1]
        return numbers

    def bars(self, at):
        """A weight for each row, when a told quantity has to be below 0."""
        weights = [0] * len(self.told)
        self.put_weight(weights, self.told[at], self.whole)
        for quantity, number in zip(self.free, self.lines[at]):
            self.put_weight(weights, quantity, -number)
        return weights

    def put_weight(self, weights, quantity, weight):
        """Gives a weight to the row of a quantity, if it has one."""
        if quantity >= self.unknowns:
            weights[quantity - self.unknowns] = weight
