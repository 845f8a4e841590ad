"""Cells: the comparisons of sums that hold of just the rolls with a course, and systems of them."""

from math import gcd

from handedvotes.errors import BadCourse
from handedvotes.forms import is_ascending, is_integer, is_pair, is_within
from handedvotes.papers import need_kinds
from handedvotes.rules import is_course, without_name
from handedvotes.tables import Table
from handedvotes.worths import first_worths, handed_on, pile_weights, stands


def cell_of(rule, course, kinds):
    """The rows that hold of just the rolls of a range that have a course."""
    if not is_course(rule, course):
        raise BadCourse(course)
    need_kinds(rule.names, kinds)
    return cell_at(rule, course, kinds)


def cell_at(rule, course, papers):
    """The rows of a cell, with the paper that each unknown brings to the roll (or NO_PAPER)."""
    rows = []
    going = rule.names
    whole = first_worths(rule, papers)
    worths = whole
    for step in course:
        standing = stands(papers, going)
        piles = {name: pile_weights(worths, standing, name) for name in going}
        rows.extend(_rows_in(rule, step[1], piles, whole) if step[0] == "in"
                    else _rows_out(rule, step[1], piles, whole))
        worths = handed_on(rule, worths, standing, step)
        going = without_name(going, step[1])
    return tuple(rows)


def holds(rows, numbers):
    """Whether all rows of a system hold of some numbers."""
    return all([_row_holds(row, numbers) for row in rows])


def are_bars(rows, thing):
    """Whether any value is bars of a system."""
    if not isinstance(thing, tuple) or not all([_is_bar(rows, item) for item in thing]):
        return False
    if not is_ascending([at for at, many in thing]):
        return False
    if not any([rows[at][1] for at, many in thing]):
        return False
    return all([total <= 0 for total in _weighed(rows, thing)])


def decided(rows):
    """A solution of a system with a strict row, or bars of it."""
    unknowns = len(rows[0][0])
    table = Table(unknowns, rows)
    barred = table.settle()
    if barred is None:
        return ("solution", tuple(_shortened(table.solution())))
    weights = _shortened(table.bars(barred))
    return ("bars", tuple([(at, weight) for at, weight in enumerate(weights) if weight > 0]))


def _rows_in(rule, name, piles, whole):
    low, high = rule.quota
    rows = [(_less(high, piles[name], low, whole), rule.over)]
    for other in piles:
        if other != name:
            rows.append((_less(1, piles[name], 1, piles[other]), _is_ahead(rule, other, name)))
    return rows


def _rows_out(rule, name, piles, whole):
    low, high = rule.quota
    rows = [(_less(low, whole, high, piles[other]), not rule.over) for other in piles]
    for other in piles:
        if other != name:
            rows.append((_less(1, piles[other], 1, piles[name]), _is_ahead(rule, name, other)))
    return rows


def _less(many, weights, fewer, others):
    """Some weights so many times, less others so many times."""
    return tuple([many * weight - fewer * other for weight, other in zip(weights, others)])


def _is_ahead(rule, name, other):
    return rule.order.index(name) < rule.order.index(other)


def _row_holds(row, numbers):
    weights, strict = row
    total = sum([weight * number for weight, number in zip(weights, numbers)])
    return total > 0 if strict else total >= 0


def _is_bar(rows, thing):
    if not is_pair(thing) or not is_within(thing[0], 0, len(rows) - 1):
        return False
    return is_integer(thing[1]) and thing[1] >= 1


def _weighed(rows, bars):
    """For each unknown the sum of the rows' weights times those of the bars."""
    totals = [0] * len(rows[0][0])
    for at, many in bars:
        totals = [total + many * weight for total, weight in zip(totals, rows[at][0])]
    return totals


def _shortened(numbers):
    """Numbers from 0 on, not all of them 0, divided by what divides all of them."""
    common = 0
    for number in numbers:
        common = gcd(common, number)
    return [number // common for number in numbers]
