"""Aims: the few exchanges by which a roll comes to a course."""

from handedvotes.cells import cell_at


class Aim:
    """A course that a roll has not, and what the papers that go or come bring to the rows of its cell.

    What a paper brings, a number for each row, is called its gain; papers with the same gain are
    alike here. going and coming tell for each gain the papers with it, each as often as it can be
    taken, but no more than most of them in all.
    """

    def __init__(self, rule, course, roll, kinds, most):
        papers = [paper for paper, many in roll.papers]
        numbers = [many for paper, many in roll.papers]
        rows = cell_at(rule, course, papers + list(kinds))
        weights = [row[0] for row in rows]
        gains = list(zip(*weights))
        self.lacks = [_lack(row, numbers) for row in rows]
        self.going = _bundles(gains[:len(papers)], papers, numbers, most)
        self.coming = _bundles(gains[len(papers):], kinds, [most] * len(kinds), most)

    def exchange(self, many):
        """Papers that go and papers that come instead, so many each, such that all rows hold; or None."""
        if not self.is_near(many):
            return None
        comings = self.handfuls(self.coming, many)
        for lost, going in self.handfuls(self.going, many):
            needs = [lack + loss for lack, loss in zip(self.lacks, lost)]
            for gained, coming in comings:
                if _is_enough(gained, needs):
                    return (going, coming)
        return None

    def is_near(self, many):
        """Whether so many exchanges can bring enough to each row, looked at alone."""
        coming = list(self.coming)
        going = list(self.going)
        most = [max(row) for row in zip(*coming)]
        least = [min(row) for row in zip(*going)]
        return all([many * (high - low) >= lack for high, low, lack in zip(most, least, self.lacks)])

    def handfuls(self, bundles, many):
        """All unlike ways to take so many papers: pairs of what they bring together, and the papers."""
        ways = [((0,) * len(self.lacks), ())]
        for gain, papers in bundles.items():
            ways = [(_plus(gains, gain, some), taken + papers[:some]) for gains, taken in ways
                    for some in range(min(len(papers), many - len(taken)) + 1)]
        return [way for way in ways if len(way[1]) == many]


def _lack(row, numbers):
    """How much is lacking until a row holds of a roll; 0 or less if it holds."""
    weights, strict = row
    total = sum([weight * many for weight, many in zip(weights, numbers)])
    return 1 - total if strict else -total


def _bundles(gains, papers, numbers, most):
    bundles = {}
    for gain, paper, many in zip(gains, papers, numbers):
        taken = bundles.get(gain, ())
        bundles[gain] = taken + (paper,) * min(many, most - len(taken))
    return bundles


def _plus(gains, gain, many):
    if many == 0:
        return gains
    return tuple([one + many * other for one, other in zip(gains, gain)])


def _is_enough(gained, needs):
    for gain, need in zip(gained, needs):
        if gain < need:
            return False
    return True
