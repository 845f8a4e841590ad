"""[16] and [17] by cells.py, with [0], [2], [3] and [4] as far as they speak of cell_of and holds."""

import random
import unittest

import plain
from drawn import FOUR, THREE, TWO, drawn_range, drawn_roll, drawn_rule
from handedvotes.cells import cell_of, holds
from handedvotes.counts import course as course_of
from handedvotes.errors import BadCourse, BadKinds
from handedvotes.papers import all_kinds
from handedvotes.rolls import Roll
from handedvotes.rules import Rule, all_courses
from odd_values import Stubborn, nested, odd_values

HUGE = 10 ** 999
SIMPLE = Rule(TWO, 1, (1, 2), False, (0, 1), TWO)
# Four units: a paper is worth 4, then 2 or 1.
HALF = Rule(THREE, 2, (1, 3), True, (1, 2), ("c", "a", "b"))
SOME = (("a", "b"), ("b",), ("c", "a"))


class CellTest(unittest.TestCase):
    def test_in_and_out_with_two_names(self):
        kinds = (("a",), ("b",))
        more_a, more_b = (1, -1), (-1, 1)
        self.assertEqual(cell_of(SIMPLE, (("in", "a"),), kinds), ((more_a, False), (more_a, False)))
        self.assertEqual(cell_of(SIMPLE, (("in", "b"),), kinds), ((more_b, False), (more_b, True)))
        self.assertEqual(cell_of(SIMPLE, (("out", "a"),), kinds),
                         ((more_b, True), (more_a, True), (more_b, True)))
        self.assertEqual(cell_of(SIMPLE, (("out", "b"),), kinds),
                         ((more_b, True), (more_a, True), (more_a, False)))

    def test_over_turns_the_rows_of_the_quota_alone(self):
        rule = SIMPLE.with_quota((1, 2), True)
        kinds = (("a",), ("b",))
        self.assertEqual(cell_of(rule, (("in", "b"),), kinds), (((-1, 1), True), ((-1, 1), True)))
        self.assertEqual(cell_of(rule, (("in", "a"),), kinds), (((1, -1), True), ((1, -1), False)))
        self.assertEqual(cell_of(rule, (("out", "b"),), kinds),
                         (((-1, 1), False), ((1, -1), False), ((1, -1), False)))

    def test_all_kinds_of_two_names(self):
        self.assertEqual(cell_of(SIMPLE.with_quota((2, 5), False), (("in", "b"),), all_kinds(TWO)),
                         (((-2, -2, 3, 3), False), ((-1, -1, 1, 1), True)))

    def test_in_then_out(self):
        self.assertEqual(cell_of(HALF, (("in", "a"), ("out", "c")), SOME), (
            ((8, -4, -4), True), ((4, -4, 0), False), ((4, 0, -4), True),
            ((-2, -8, 4), False), ((4, 4, -8), False), ((2, 4, -4), True)))

    def test_in_then_in(self):
        self.assertEqual(cell_of(HALF, (("in", "c"), ("in", "a")), SOME), (
            ((-4, -4, 8), True), ((-4, 0, 4), False), ((0, -4, 4), False),
            ((8, -4, 2), True), ((4, -4, 2), False)))

    def test_papers_that_stand_with_none(self):
        rule = Rule(THREE, 1, (1, 2), True, (0, 1), THREE)
        kinds = (("a",), ("b", "c"), ("c",))
        self.assertEqual(cell_of(rule, (("out", "a"), ("in", "c")), kinds), (
            ((-1, 1, 1), False), ((1, -1, 1), False), ((1, 1, -1), False),
            ((-1, 1, 0), True), ((-1, 0, 1), True),
            ((-1, -1, 1), True), ((0, -1, 1), True)))

    def test_nothing_handed_on(self):
        rule = Rule(THREE, 2, (1, 2), False, (0, 3), THREE)
        self.assertEqual(cell_of(rule, (("in", "a"), ("in", "b")), (("a", "b"), ("b", "a"))), (
            ((9, -9), False), ((9, -9), False), ((9, 0), False),
            ((-9, 9), False), ((0, 9), False)))

    def test_kinds_of_a_part_have_the_weights_that_they_have_among_all(self):
        source = random.Random(16)
        for names in (TWO, THREE):
            rule = drawn_rule(source, names)
            for course in all_courses(rule):
                whole = cell_of(rule, course, all_kinds(names))
                kinds = drawn_range(source, names, 6)
                places = [all_kinds(names).index(kind) for kind in kinds]
                part = tuple([(tuple([weights[at] for at in places]), strict) for weights, strict in whole])
                self.assertEqual(cell_of(rule, course, kinds), part)

    def test_as_told_by_the_plain_rows(self):
        source = random.Random(160)
        for names in (TWO, THREE, THREE, FOUR):
            rule = drawn_rule(source, names)
            kinds = all_kinds(names) if names != FOUR else drawn_range(source, names, 12)
            for course in all_courses(rule):
                cell = cell_of(rule, course, kinds)
                self.assertEqual(cell, plain.cell(rule, course, kinds))
                self.assertIsInstance(cell, tuple)
                for weights, strict in cell:
                    self.assertEqual(len(weights), len(kinds))
                    self.assertIs(strict is True or strict is False, True)

    def test_rows_hold_just_if_the_roll_has_the_course(self):
        source = random.Random(17)
        for _ in range(80):
            names = source.choice([TWO, THREE, THREE, FOUR])
            rule = drawn_rule(source, names)
            kinds = drawn_range(source, names, 8)
            cells = {course: cell_of(rule, course, kinds) for course in all_courses(rule)}
            for most in (1, 2, 4, HUGE):
                roll = drawn_roll(source, names, kinds, most)
                numbers = tuple([roll[kind] for kind in kinds])
                having = [course for course in cells if holds(cells[course], numbers)]
                self.assertEqual(having, [plain.course(rule, roll.papers)])
                self.assertEqual(having, [course_of(rule, roll)])


class RefusedCellTest(unittest.TestCase):
    KINDS = (("a",), ("b",))

    def refused(self, error, value, course, kinds, rule=SIMPLE):
        with self.assertRaises(error) as caught:
            cell_of(rule, course, kinds)
        self.assertIs(caught.exception.value, value)

    def wrong_courses(self):
        return odd_values() + [
            (("in", "c"),), (("in", "a"), ("in", "b")), (("out", "a"), ("out", "b")), [("in", "a")],
            (["in", "a"],), (("in", "a", "b"),), (("In", "a"),), (("in", Stubborn()),), nested(40),
            (("in",), ("a",)), {("in", "a"): 1}, SIMPLE, Roll(TWO, [(("a",), 1)])]

    def wrong_ranges(self):
        return odd_values() + [
            (("b",), ("a",)), (("a",), ("a",)), (("a",), ("c",)), [("a",)], (["a"],), ("a", "b"),
            (("a",), ()), (("a", "a"),), (("a",), Stubborn()), nested(40), SIMPLE, (SIMPLE,)]

    def test_no_course(self):
        for course in self.wrong_courses():
            self.refused(BadCourse, course, course, self.KINDS)

    def test_no_range(self):
        for kinds in self.wrong_ranges():
            self.refused(BadKinds, kinds, (("in", "a"),), kinds)

    def test_the_course_first(self):
        course = (("in", "c"),)
        for kinds in self.wrong_ranges():
            self.refused(BadCourse, course, course, kinds)

    def test_courses_of_other_rules(self):
        three = Rule(THREE, 1, (1, 2), False, (0, 1), THREE)
        two_seats = (("in", "a"), ("in", "b"))
        self.refused(BadCourse, two_seats, two_seats, (("a",),), three)
        self.assertEqual(len(cell_of(three.with_seats(2), two_seats, (("a",),))), 5)


class HoldsTest(unittest.TestCase):
    def test_at_and_around_0(self):
        for strict in (True, False):
            rows = (((2, -3), strict),)
            self.assertIs(holds(rows, (3, 2)), not strict)
            self.assertIs(holds(rows, (0, 0)), not strict)
            self.assertIs(holds(rows, (2, 1)), True)
            self.assertIs(holds(rows, (1, 1)), False)

    def test_all_rows_have_to_hold(self):
        rows = (((1, 0), False), ((0, 1), True), ((1, 1), False))
        self.assertIs(holds(rows, (0, 1)), True)
        self.assertIs(holds(rows, (0, 0)), False)
        self.assertIs(holds(rows, (-1, 1)), False)
        self.assertIs(holds(rows, (1, 0)), False)

    def test_numbers_below_0(self):
        self.assertIs(holds((((-1,), True),), (-1,)), True)
        self.assertIs(holds((((1,), False),), (-1,)), False)
        self.assertIs(holds((((1, 1), False),), (-2, 2)), True)
        self.assertIs(holds((((1, 1), True),), (-2, 2)), False)
        self.assertIs(holds((((-3, 2), True),), (-1, -1)), True)

    def test_rows_of_zeros(self):
        self.assertIs(holds((((0, 0), False),), (5, -7)), True)
        self.assertIs(holds((((0, 0), True),), (5, -7)), False)

    def test_large_numbers(self):
        rows = (((HUGE, -HUGE + 1), True),)
        self.assertIs(holds(rows, (HUGE - 1, HUGE)), False)
        self.assertIs(holds(rows, (HUGE, HUGE)), True)
        self.assertIs(holds((((1, -1), False),), (-HUGE, -HUGE + 1)), False)

    def test_as_the_plain_rows(self):
        source = random.Random(18)
        for _ in range(300):
            unknowns = source.randint(1, 4)
            rows = tuple([(tuple([source.randint(-2, 2) for _ in range(unknowns)]), source.random() < 0.5)
                          for _ in range(source.randint(1, 3))])
            numbers = tuple([source.randint(-2, 2) for _ in range(unknowns)])
            self.assertIs(holds(rows, numbers), all([plain.row_holds(row, numbers) for row in rows]))


class ConventionsTest(unittest.TestCase):
    def test_by_parameter_names(self):
        course = (("in", "a"), ("out", "c"))
        rows = cell_of(rule=HALF, course=course, kinds=SOME)
        self.assertEqual(rows, cell_of(HALF, course, SOME))
        self.assertIs(holds(rows=rows, numbers=(0, 0, 0)), False)

    def test_nothing_is_changed_and_equal_calls_are_equal(self):
        rule = Rule(THREE, 2, (1, 3), True, (1, 2), ("c", "a", "b"))
        course = (("in", "a"), ("out", "c"))
        first = cell_of(rule, course, SOME)
        cell_of(rule, (("out", "b"),), SOME)
        self.assertEqual(cell_of(rule, course, SOME), first)
        self.assertEqual(rule, HALF)


if __name__ == "__main__":
    unittest.main()
