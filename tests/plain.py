"""The count, the rows and the questions once more, as directly as DOC.md tells them.

Nothing of the package is used here but the fields of its rolls and rules: the tests hold the
package against this. A rule or roll is anything with these fields.
"""

import itertools
from fractions import Fraction


def first_going(paper, going):
    return next((name for name in paper if name in going), None)


def steps_possible(going):
    return sorted(itertools.product(("in", "out"), going))


def has_ended(rule, steps):
    came = [name for word, name in steps if word == "in"]
    return len(came) == rule.seats or len(rule.names) - len(steps) <= rule.seats - len(came)


def going_behind(rule, steps):
    return [name for name in rule.names if name not in [stepped for word, stepped in steps]]


def courses(rule, steps=()):
    """All tuples of steps that can come, ascending."""
    if has_ended(rule, steps):
        return [steps]
    return [course for step in steps_possible(going_behind(rule, steps))
            for course in courses(rule, steps + (step,))]


def lot_of(rule, course):
    came = [name for word, name in course if word == "in"]
    rest = [name for name in rule.names if name not in [stepped for word, stepped in course]]
    return tuple(sorted(came + rest if len(came) < rule.seats else came))


def piles_behind(rule, steps, papers):
    """The pile of each name that goes on, of papers that are pairs (paper, number)."""
    worths = [Fraction(rule.hand[1]) ** rule.seats for _ in papers]
    for at, (word, name) in enumerate(steps):
        going = going_behind(rule, steps[:at])
        for place, (paper, _) in enumerate(papers):
            if word == "in" and first_going(paper, going) == name:
                worths[place] *= Fraction(rule.hand[0], rule.hand[1])
    going = going_behind(rule, steps)
    piles = {name: 0 for name in going}
    for worth, (paper, many) in zip(worths, papers):
        name = first_going(paper, going)
        if name is not None:
            assert worth.denominator == 1
            piles[name] += many * worth.numerator
    return piles


def has_quota(rule, pile, total):
    left = pile * rule.quota[1]
    right = rule.quota[0] * total * rule.hand[1] ** rule.seats
    return left > right if rule.over else left >= right


def stages(rule, papers):
    total = sum(many for _, many in papers)
    steps = ()
    found = []
    while not has_ended(rule, steps):
        piles = piles_behind(rule, steps, papers)
        enough = [name for name in piles if has_quota(rule, piles[name], total)]
        if enough:
            most = max(piles[name] for name in enough)
            step = ("in", next(name for name in rule.order if piles.get(name) == most))
        else:
            least = min(piles.values())
            step = ("out", [name for name in rule.order if piles.get(name) == least][-1])
        found.append((tuple(sorted(piles.items())), step))
        steps += (step,)
    return tuple(found)


def course(rule, papers):
    return tuple(step for _, step in stages(rule, papers))


def winners(rule, papers):
    return lot_of(rule, course(rule, papers))


def cell(rule, course, brought):
    """The rows of a course, with the paper that each unknown brings, or None."""
    rows = []
    low, high = rule.quota
    every = [0 if paper is None else rule.hand[1] ** rule.seats for paper in brought]
    for at, (word, name) in enumerate(course):
        going = going_behind(rule, course[:at])
        pile = {other: [] for other in going}
        for paper in brought:
            piles = piles_behind(rule, course[:at], [] if paper is None else [(paper, 1)])
            for other in going:
                pile[other].append(piles[other])
        rank = {other: rule.order.index(other) for other in going}
        others = [other for other in going if other != name]
        if word == "in":
            rows.append((sums(high, pile[name], -low, every), rule.over))
            rows += [(sums(1, pile[name], -1, pile[b]), rank[b] < rank[name]) for b in others]
        else:
            rows += [(sums(low, every, -high, pile[b]), not rule.over) for b in going]
            rows += [(sums(1, pile[b], -1, pile[name]), rank[name] < rank[b]) for b in others]
    return tuple(rows)


def sums(many, weights, more, others):
    return tuple(many * weight + more * other for weight, other in zip(weights, others))


def moved(paper, name):
    if paper[0] == name:
        return None
    if name not in paper:
        return paper + (name,)
    changed = list(paper)
    at = changed.index(name)
    changed[at - 1], changed[at] = changed[at], changed[at - 1]
    return tuple(changed)


def is_better(paper, lot, other):
    apart = [name for name in paper if (name in lot) != (name in other)]
    return bool(apart) and apart[0] in lot


def brought_by(question, kinds):
    """For each roll of an answer what each unknown brings to it."""
    kinds = list(kinds)
    if question[0] == "raise":
        to_move = [kind for kind in kinds if kind[0] != question[1]]
        return [kinds + to_move, kinds + [moved(kind, question[1]) for kind in to_move]]
    if question[0] == "stay":
        return [kinds + [question[1]], kinds + [None]]
    if question[0] == "halves":
        none = [None for _ in kinds]
        return [kinds + none, none + kinds, kinds + kinds]
    return [kinds]


def rules_of(rule, question):
    """The rule of each place in what a system is called."""
    return {"course": [rule], "part": [rule, question[1:] and question[1]],
            "halves": [rule] * 3}.get(question[0], [rule] * 2)


def is_asked(rule, question, lots):
    """Whether lots of winners, one for each place, are what a question asks for."""
    if question[0] == "raise":
        return question[1] in lots[0] and question[1] not in lots[1]
    if question[0] == "stay":
        return is_better(question[1], lots[1], lots[0])
    if question[0] == "halves":
        return lots[0] == lots[1] != lots[2]
    return lots[0] != lots[1]


def calls(rule, question):
    if question[0] == "course":
        return ((question[1],),)
    rules = rules_of(rule, question)
    found = []
    for call in itertools.product(*[courses(one) for one in rules]):
        lots = [lot_of(one, course) for one, course in zip(rules, call)]
        ordered = question[0] != "halves" or call[0] < call[1]
        if ordered and is_asked(rule, question, lots):
            found.append(call)
    return tuple(found)


def ends(question, kinds):
    many = len(brought_by(question, kinds)[0])
    if question[0] == "halves":
        ones, none = (1,) * len(kinds), (0,) * len(kinds)
        return ((ones + none, True), (none + ones, True))
    if question[0] == "stay":
        return (((1,) * (many - 1) + (0,), True),)
    return (((1,) * many, True),)


def systems(rule, question, kinds):
    rules = rules_of(rule, question)
    brought = brought_by(question, kinds)
    if question[0] == "part":
        brought = brought * 2
    cells = [{course: cell(one, course, papers) for course in courses(one)}
             for one, papers in zip(rules, brought)]
    return tuple(sum([table[course] for table, course in zip(cells, call)], ()) + ends(question, kinds)
                 for call in calls(rule, question))


def row_holds(row, numbers):
    total = 0
    for weight, number in zip(row[0], numbers, strict=True):
        total += weight * number
    return total > 0 or total == 0 and not row[1]


def are_bars(rows, bars):
    """Whether a tuple of pairs of integers is bars."""
    numbers = [at for at, _ in bars]
    if numbers != sorted(set(numbers)) or not all(0 <= at < len(rows) for at in numbers):
        return False
    if not all(weight >= 1 for _, weight in bars) or not any(rows[at][1] for at in numbers):
        return False
    totals = [sum(rows[at][0][unknown] * weight for at, weight in bars)
              for unknown in range(len(rows[0][0]))]
    return all(total <= 0 for total in totals)


def papers_brought(brought, numbers):
    """For each roll the ascending tuple of pairs (paper, number)."""
    found = []
    for papers in brought:
        table = {}
        for paper, many in zip(papers, numbers):
            if paper is not None and many:
                table[paper] = table.get(paper, 0) + many
        found.append(tuple(sorted(table.items())))
    return found


def small_numbers(unknowns, most):
    """All tuples of numbers from 0 on that are at most so many together."""
    if unknowns == 0:
        return [()]
    return [(many,) + rest for many in range(most + 1)
            for rest in small_numbers(unknowns - 1, most - many)]


def small_show(rule, question, kinds, most):
    """Whether rolls of few papers, each counted, show what a question asks for."""
    brought = brought_by(question, kinds)
    rules = rules_of(rule, question)
    for numbers in small_numbers(len(brought[0]), most):
        rolls = papers_brought(brought, numbers)
        if not all(rolls):
            continue
        if question[0] == "part":
            rolls = rolls * 2
        if question[0] == "course":
            if course(rule, rolls[0]) == question[1]:
                return True
        elif is_asked(rule, question, [winners(one, papers) for one, papers in zip(rules, rolls)]):
            return True
    return False


def are_told(question, kinds, rolls):
    """Whether the papers of some rolls can be those of an answer, whatever their courses are."""
    papers = [dict(roll) for roll in rolls]
    if question[0] == "raise":
        return are_moved(question[1], kinds, papers[0], papers[1])
    if question[0] == "stay":
        more = {paper: many - papers[1].get(paper, 0) for paper, many in papers[0].items()}
        more = {paper: many for paper, many in more.items() if many != 0}
        fewer = set(papers[1]) - set(papers[0])
        return not fewer and set(papers[1]) <= set(kinds) and (
            not more or (list(more) == [question[1]] and more[question[1]] > 0))
    if question[0] == "halves":
        both = {kind: papers[0].get(kind, 0) + papers[1].get(kind, 0) for kind in papers[0] | papers[1]}
        return both == papers[2] and set(both) <= set(kinds)
    return set(papers[0]) <= set(kinds)


def are_moved(name, kinds, ahead, behind):
    if not set(ahead) <= set(kinds):
        return False
    there = dict(behind)
    # What came to the first place is known first; undone, it tells what came to the next one.
    for paper in sorted(kinds, key=lambda kind: kind.index(name) if name in kind else 9):
        if moved(paper, name) is None:
            continue
        many = there.get(moved(paper, name), 0) - ahead.get(moved(paper, name), 0)
        if not 0 <= many <= ahead.get(paper, 0):
            return False
        there[moved(paper, name)] = there.get(moved(paper, name), 0) - many
        there[paper] = there.get(paper, 0) + many
    return {paper: many for paper, many in there.items() if many} == ahead


def is_shown(rule, question, kinds, called, rolls):
    """Whether some rolls, each told by its papers, are those of an answer that is called so."""
    if called not in calls(rule, question) or not are_told(question, kinds, rolls):
        return False
    counted = rolls * 2 if question[0] == "part" else rolls
    return tuple(course(one, papers) for one, papers in zip(rules_of(rule, question), counted)) == called


def fewest(rule, question, kinds, most):
    """The least sum of numbers, at most so many, whose rolls show what a question asks, or None.

    Each unknown brings one paper to the roll that is told first (of "halves", to both together),
    so this sum is how many papers there are in it.
    """
    brought = brought_by(question, kinds)
    rules = rules_of(rule, question)
    told = set(calls(rule, question))
    known = {}
    for numbers in sorted(small_numbers(len(brought[0]), most), key=sum):
        rolls = papers_brought(brought, numbers)
        if all(rolls):
            counted = rolls * 2 if question[0] == "part" else rolls
            if tuple(course_once(known, one, papers) for one, papers in zip(rules, counted)) in told:
                return sum(numbers)
    return None


def course_once(known, rule, papers):
    """The course of a roll; known is a dict that keeps what was counted."""
    key = (rule.seats, rule.quota, rule.over, rule.hand, rule.order, papers)
    if key not in known:
        known[key] = course(rule, papers)
    return known[key]


def with_papers(papers, coming, going=()):
    """Papers with some more and some less, each of these a list of papers; None if too many go."""
    table = dict(papers)
    for paper in going:
        table[paper] = table.get(paper, 0) - 1
        if table[paper] < 0:
            return None
    for paper in coming:
        table[paper] = table.get(paper, 0) + 1
    return tuple(sorted((paper, many) for paper, many in table.items() if many))


def some_of(papers, many):
    return itertools.combinations_with_replacement(papers, many)


def margin(rule, papers, kinds, most):
    lot = winners(rule, papers)
    known = {}
    for many in range(1, most + 1):
        for going in some_of([paper for paper, _ in papers], many):
            for coming in some_of(kinds, many):
                changed = with_papers(papers, coming, going)
                if changed is not None and lot_of(rule, course_once(known, rule, changed)) != lot:
                    return many
    return None


def lots_with(rule, papers, kinds, many):
    """The lots of winners when so many papers of a range come, whichever they are."""
    return {winners(rule, with_papers(papers, coming)) for coming in some_of(kinds, many)}


def added(rule, papers, name, kinds, most):
    return next((many for many in range(most + 1)
                 if any(name in lot for lot in lots_with(rule, papers, kinds, many))), None)


def missing(rule, papers, kinds, many):
    lots = lots_with(rule, papers, kinds, many)
    return (tuple(name for name in rule.names if any(name in lot for lot in lots)),
            tuple(name for name in rule.names if all(name in lot for lot in lots)))
