"""Plans: which systems a question has, and which rolls a solution of one of them brings."""

from handedvotes.cells import cell_at
from handedvotes.papers import raised
from handedvotes.rules import all_courses, winners_of
from handedvotes.worths import NO_PAPER


class Plan:
    """A question that is asked over a range.

    calls is what the systems are called; cells tells, for each place in a call, the rows of each
    course there; ends are the rows behind these; brought tells, for each roll of an answer, the
    paper that each unknown brings to it, or NO_PAPER.
    """

    def __init__(self, calls, cells, ends, brought):
        self.calls = calls
        self.cells = cells
        self.ends = ends
        self.brought = brought

    def system(self, call):
        """The system that is called so."""
        rows = []
        for cell, course in zip(self.cells, call):
            rows.extend(cell[course])
        rows.extend(self.ends)
        return tuple(rows)

    def papers_of(self, numbers):
        """For each roll its papers, in the form of a Roll's field, if the unknowns are these."""
        return [_added_up(papers, numbers) for papers in self.brought]

    def unknowns_of(self, rolls):
        """The only numbers that can bring these rolls; others, perhaps below 0, if none do."""
        sums = []
        for papers, roll in zip(self.brought, rolls):
            sums.extend([(places, roll[paper]) for paper, places in _places_of(papers).items()])
        known = {}
        # A sum in which one number lacks tells it. That ends in every plan: behind the moves there
        # is one paper at least whose sum has no moved ones, it tells those that are moved on, ...
        while len(known) < len(self.brought[0]):
            for places, total in sums:
                lacking = [at for at in places if at not in known]
                if len(lacking) == 1:
                    known[lacking[0]] = total - sum([known[at] for at in places if at in known])
        return [known[at] for at in range(len(known))]


def plan_of(rule, question, kinds):
    """The plan of a question over a range."""
    word = question[0]
    if word == "course":
        return _course_plan(rule, question[1], kinds)
    if word == "raise":
        return _raise_plan(rule, question[1], kinds)
    if word == "stay":
        return _stay_plan(rule, question[1], kinds)
    if word == "part":
        return _part_plan(rule, question[1], kinds)
    return _halves_plan(rule, kinds)


def is_better(paper, lot, other):
    """Whether a lot is better than another one for those who write a paper."""
    for name in paper:
        if (name in lot) != (name in other):
            return name in lot
    return False


def _course_plan(rule, course, kinds):
    return Plan(((course,),), [{course: cell_at(rule, course, kinds)}], [_some_of(kinds)], [kinds])


def _raise_plan(rule, name, kinds):
    moved = tuple([kind for kind in kinds if kind[0] != name])
    ahead = kinds + moved
    behind = kinds + tuple([raised(kind, name) for kind in moved])
    lots = _lots(rule)
    calls = [(one, two) for one in lots for two in lots if name in lots[one] and name not in lots[two]]
    return Plan(tuple(calls), [_cells(rule, ahead), _cells(rule, behind)], [_some_of(ahead)], [ahead, behind])


def _stay_plan(rule, paper, kinds):
    coming = kinds + (paper,)
    staying = kinds + (NO_PAPER,)
    lots = _lots(rule)
    calls = [(one, two) for one in lots for two in lots if is_better(paper, lots[two], lots[one])]
    cells = [_cells(rule, coming), _cells(rule, staying)]
    return Plan(tuple(calls), cells, [_some_of(staying)], [coming, staying])


def _halves_plan(rule, kinds):
    none = (NO_PAPER,) * len(kinds)
    brought = [kinds + none, none + kinds, kinds + kinds]
    lots = _lots(rule)
    halves = [(one, two) for one in lots for two in lots if one < two and lots[one] == lots[two]]
    calls = [(one, two, both) for one, two in halves for both in lots if lots[both] != lots[one]]
    ends = [_some_of(brought[0]), _some_of(brought[1])]
    return Plan(tuple(calls), [_cells(rule, papers) for papers in brought], ends, brought)


def _part_plan(rule, other, kinds):
    lots = _lots(rule)
    others = _lots(other)
    calls = [(one, two) for one in lots for two in others if lots[one] != others[two]]
    return Plan(tuple(calls), [_cells(rule, kinds), _cells(other, kinds)], [_some_of(kinds)], [kinds])


def _lots(rule):
    """The winners of each course, in the order of the courses."""
    return {course: winners_of(rule, course) for course in all_courses(rule)}


def _cells(rule, papers):
    """The rows of each course at a roll to which each unknown brings a paper."""
    return {course: cell_at(rule, course, papers) for course in all_courses(rule)}


def _some_of(papers):
    """The strict row that holds if a paper comes to the roll."""
    return (tuple([0 if paper == NO_PAPER else 1 for paper in papers]), True)


def _places_of(papers):
    """The unknowns that bring each paper."""
    places = {}
    for at, paper in enumerate(papers):
        if paper != NO_PAPER:
            places[paper] = places.get(paper, []) + [at]
    return places


def _added_up(papers, numbers):
    """The papers that there are, ascending, each with its number."""
    table = {}
    for paper, many in zip(papers, numbers):
        if paper != NO_PAPER:
            table[paper] = table.get(paper, 0) + many
    return tuple(sorted([(paper, many) for paper, many in table.items() if many > 0]))
