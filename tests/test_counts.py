"""[13] and [14] by counts.py, with [0], [2], [3] and [4] as far as they speak of it."""

import random
import unittest

import plain
from drawn import FOUR, THREE, TWO, drawn_roll, drawn_rule
from handedvotes.counts import course, stages, winners
from handedvotes.errors import BadNames
from handedvotes.papers import all_kinds
from handedvotes.rolls import Roll
from handedvotes.rules import Rule, all_courses

HUGE = 10 ** 999


def rule_of(names=THREE, seats=1, quota=(1, 2), over=True, hand=(0, 1), order=None):
    return Rule(names, seats, quota, over, hand, order or names)


def roll_of(text, names=THREE):
    """Of "4 ac, 3 b": four papers with the names that begin with a and c, three with b."""
    items = []
    for item in text.split(", "):
        many, letters = item.split(" ")
        paper = tuple([name for letter in letters for name in names if name[0] == letter])
        items.append((paper, int(many)))
    return Roll(names, items)


class CountTestCase(unittest.TestCase):
    def counted(self, rule, roll, *expected):
        """Each expected stage is the piles of the names that go on, by letters, and the step."""
        found = stages(rule, roll)
        self.assertEqual(found, tuple(expected))
        self.assertEqual(course(rule, roll), tuple([step for _, step in expected]))
        self.assertIsInstance(found, tuple)
        return winners(rule, roll)


class EndTest(CountTestCase):
    def test_the_example(self):
        roll = roll_of("4 ac, 3 ba, 3 cb")
        lot = self.counted(rule_of(), roll,
                           ((("a", 4), ("b", 3), ("c", 3)), ("out", "c")),
                           ((("a", 4), ("b", 6)), ("in", "b")))
        self.assertEqual(lot, ("b",))
        more = roll + roll_of("1 cb")
        lot = self.counted(rule_of(), more,
                           ((("a", 4), ("b", 3), ("c", 4)), ("out", "b")),
                           ((("a", 7), ("c", 4)), ("in", "a")))
        self.assertEqual(lot, ("a",))

    def test_at_once_by_a_full_number_of_seats(self):
        lot = self.counted(rule_of(), roll_of("2 b, 1 a"),
                           ((("a", 1), ("b", 2), ("c", 0)), ("in", "b")))
        self.assertEqual(lot, ("b",))

    def test_at_once_as_the_rest_comes_in(self):
        lot = self.counted(rule_of(seats=2), roll_of("2 b, 1 a, 2 c"),
                           ((("a", 1), ("b", 2), ("c", 2)), ("out", "a")))
        self.assertEqual(lot, ("b", "c"))

    def test_the_rest_comes_in_behind_one_that_came_in(self):
        lot = self.counted(rule_of(seats=2), roll_of("5 b, 1 a, 2 c"),
                           ((("a", 1), ("b", 5), ("c", 2)), ("in", "b")),
                           ((("a", 1), ("c", 2)), ("out", "a")))
        self.assertEqual(lot, ("b", "c"))

    def test_no_more_rounds_when_as_many_go_on_as_seats_are_left(self):
        # c would have the quota, but the round in which it came in does not take place.
        lot = self.counted(rule_of(), roll_of("2 abc, 3 bca, 4 cab, 1 bac"),
                           ((("a", 2), ("b", 4), ("c", 4)), ("out", "a")),
                           ((("b", 6), ("c", 4)), ("in", "b")))
        self.assertEqual(lot, ("b",))
        lot = self.counted(rule_of(names=TWO), roll_of("1 a, 1 b", TWO),
                           ((("a", 1), ("b", 1)), ("out", "b")))
        self.assertEqual(lot, ("a",))

    def test_papers_that_end_early(self):
        lot = self.counted(rule_of(), roll_of("2 a, 2 b, 1 c"),
                           ((("a", 2), ("b", 2), ("c", 1)), ("out", "c")),
                           ((("a", 2), ("b", 2)), ("out", "b")))
        self.assertEqual(lot, ("a",))

    def test_names_without_a_paper_go_on_with_a_pile_of_0(self):
        lot = self.counted(rule_of(names=FOUR, seats=2), roll_of("1 c", FOUR),
                           ((("ann", 0), ("bob", 0), ("cy", 1), ("dee", 0)), ("in", "cy")),
                           ((("ann", 0), ("bob", 0), ("dee", 0)), ("out", "dee")),
                           ((("ann", 0), ("bob", 0)), ("out", "bob")))
        self.assertEqual(lot, ("ann", "cy"))


class QuotaTest(CountTestCase):
    def test_just_at_the_quota(self):
        roll = roll_of("2 b, 1 a, 1 c")
        self.counted(rule_of(over=False), roll, ((("a", 1), ("b", 2), ("c", 1)), ("in", "b")))
        self.counted(rule_of(over=True), roll,
                     ((("a", 1), ("b", 2), ("c", 1)), ("out", "c")),
                     ((("a", 1), ("b", 2)), ("out", "a")))

    def test_one_paper_to_both_sides_of_it(self):
        for many, steps in ((4, [("in", "a")]), (3, [("out", "b"), ("out", "c")])):
            roll = Roll(THREE, [(("a",), many), (("b",), 2), (("c",), 8 - many - 2)])
            self.assertEqual(list(course(rule_of(quota=(1, 2), over=False), roll)), steps)

    def test_it_is_told_by_all_papers_also_by_those_that_stand_with_none(self):
        # Of the seven that still stand with a name a has more than a half, of all ten it has not.
        lot = self.counted(rule_of(over=False), roll_of("4 a, 3 b, 3 c"),
                           ((("a", 4), ("b", 3), ("c", 3)), ("out", "c")),
                           ((("a", 4), ("b", 3)), ("out", "b")))
        self.assertEqual(lot, ("a",))

    def test_it_is_told_by_what_papers_were_worth_at_first(self):
        # Behind the step of a its papers are worth half as much, but the quota stays at 3 of 6.
        lot = self.counted(rule_of(seats=2, over=False, hand=(1, 2)), roll_of("4 ab, 1 b, 1 c"),
                           ((("a", 16), ("b", 4), ("c", 4)), ("in", "a")),
                           ((("b", 12), ("c", 4)), ("in", "b")))
        self.assertEqual(lot, ("a", "b"))
        self.assertEqual(course(rule_of(seats=2, hand=(1, 2)), roll_of("4 ab, 1 b, 1 c")),
                         (("in", "a"), ("out", "c")))

    def test_unlike_forms_of_one_quota(self):
        source = random.Random(11)
        for _ in range(50):
            roll = drawn_roll(source, THREE, all_kinds(THREE), 3)
            for over in (True, False):
                self.assertEqual(stages(rule_of(quota=(1, 2), over=over), roll),
                                 stages(rule_of(quota=(50, 100), over=over), roll))


class TieTest(CountTestCase):
    def test_of_equal_greatest_piles_the_first_in_the_order_comes_in(self):
        roll = roll_of("2 a, 2 b, 1 c")
        for order, name in ((("a", "b", "c"), "a"), (("b", "a", "c"), "b"),
                            (("c", "b", "a"), "b"), (("c", "a", "b"), "a")):
            rule = rule_of(quota=(1, 3), order=order)
            self.assertEqual(course(rule, roll), (("in", name),))

    def test_of_several_with_the_quota_the_greatest_comes_in(self):
        for order in (("a", "b", "c"), ("b", "a", "c")):
            rule = rule_of(quota=(1, 4), order=order)
            self.assertEqual(course(rule, roll_of("3 a, 4 b, 1 c")), (("in", "b"),))

    def test_of_equal_least_piles_the_last_in_the_order_goes_out(self):
        roll = roll_of("3 a, 2 b, 2 c")
        for order, name in ((("a", "b", "c"), "c"), (("b", "c", "a"), "c"),
                            (("c", "b", "a"), "b"), (("a", "c", "b"), "b")):
            rule = rule_of(order=order)
            self.assertEqual(course(rule, roll)[0], ("out", name))

    def test_all_piles_equal(self):
        rule = rule_of(order=("b", "c", "a"))
        self.assertEqual(course(rule, roll_of("1 a, 1 b, 1 c")), (("out", "a"), ("out", "c")))
        rule = rule_of(quota=(1, 4), order=("b", "c", "a"))
        self.assertEqual(course(rule, roll_of("1 a, 1 b, 1 c")), (("in", "b"),))


class HandTest(CountTestCase):
    ROLL = roll_of("5 abc, 1 b, 1 c, 1 d", FOUR)

    def rule(self, hand):
        return rule_of(names=FOUR, seats=3, quota=(1, 4), over=False, hand=hand)

    def test_nothing_is_handed_on(self):
        lot = self.counted(self.rule((0, 1)), self.ROLL,
                           ((("ann", 5), ("bob", 1), ("cy", 1), ("dee", 1)), ("in", "ann")),
                           ((("bob", 1), ("cy", 1), ("dee", 1)), ("out", "dee")))
        self.assertEqual(lot, ("ann", "bob", "cy"))

    def test_nothing_of_many_units_is_handed_on(self):
        self.counted(self.rule((0, 10)), self.ROLL,
                     ((("ann", 5000), ("bob", 1000), ("cy", 1000), ("dee", 1000)), ("in", "ann")),
                     ((("bob", 1000), ("cy", 1000), ("dee", 1000)), ("out", "dee")))

    def test_a_half_is_handed_on_over_several_seats(self):
        lot = self.counted(self.rule((1, 2)), self.ROLL,
                           ((("ann", 40), ("bob", 8), ("cy", 8), ("dee", 8)), ("in", "ann")),
                           ((("bob", 28), ("cy", 8), ("dee", 8)), ("in", "bob")),
                           ((("cy", 18), ("dee", 8)), ("in", "cy")))
        self.assertEqual(lot, ("ann", "bob", "cy"))

    def test_the_whole_is_handed_on(self):
        self.counted(self.rule((1, 1)), self.ROLL,
                     ((("ann", 5), ("bob", 1), ("cy", 1), ("dee", 1)), ("in", "ann")),
                     ((("bob", 6), ("cy", 1), ("dee", 1)), ("in", "bob")),
                     ((("cy", 6), ("dee", 1)), ("in", "cy")))

    def test_those_of_one_that_goes_out_are_handed_on_whole(self):
        rule = rule_of(names=FOUR, seats=2, quota=(1, 2), over=False, hand=(1, 3))
        lot = self.counted(rule, roll_of("6 acb, 2 cb, 1 bd, 3 d", FOUR),
                           ((("ann", 54), ("bob", 9), ("cy", 18), ("dee", 27)), ("in", "ann")),
                           ((("bob", 9), ("cy", 36), ("dee", 27)), ("out", "bob")),
                           ((("cy", 36), ("dee", 36)), ("out", "dee")))
        self.assertEqual(lot, ("ann", "cy"))


class NumbersTest(CountTestCase):
    def test_numbers_of_a_thousand_digits(self):
        roll = Roll(THREE, [(("a", "b"), HUGE), (("b",), HUGE), (("c",), HUGE - 1)])
        rule = rule_of(seats=2, quota=(1, 3), hand=(99, 100))
        lot = self.counted(
            rule, roll,
            ((("a", 10000 * HUGE), ("b", 10000 * HUGE), ("c", 10000 * (HUGE - 1))), ("in", "a")),
            ((("b", 19900 * HUGE), ("c", 10000 * (HUGE - 1))), ("in", "b")))
        self.assertEqual(lot, ("a", "b"))

    def test_one_paper_of_so_many_more_or_less(self):
        for change, step in ((-1, ("out", "a")), (0, ("out", "b")), (1, ("in", "a"))):
            roll = Roll(TWO, [(("a",), HUGE + change), (("b",), HUGE)])
            self.assertEqual(course(rule_of(names=TWO), roll)[0],
                             step if change >= 0 else ("in", "b"))


class DrawnTest(CountTestCase):
    def test_as_the_plain_count(self):
        source = random.Random(13)
        for _ in range(600):
            names = source.choice([TWO, THREE, FOUR])
            rule = drawn_rule(source, names)
            roll = drawn_roll(source, names, all_kinds(names)[:source.choice([2, 4, 9, 64])],
                              source.choice([1, 2, 5, 1000, HUGE]))
            expected = plain.stages(rule, roll.papers)
            self.assertEqual(stages(rule, roll), expected)
            self.assertEqual(course(rule, roll), tuple([step for _, step in expected]))
            self.assertEqual(winners(rule, roll), plain.winners(rule, roll.papers))
            self.assertIn(course(rule, roll), all_courses(rule))


class ConventionsTest(CountTestCase):
    def test_other_names_are_refused(self):
        for call in (stages, course, winners):
            for names, other in ((THREE, TWO), (TWO, THREE), (THREE, ("a", "b", "d")), (FOUR, TWO)):
                roll = Roll(other, [(other[:1], 1)])
                with self.assertRaises(BadNames) as caught:
                    call(rule_of(names=names), roll)
                self.assertEqual(caught.exception.value, other)

    def test_by_parameter_names(self):
        rule, roll = rule_of(), roll_of("2 b, 1 a")
        self.assertEqual(stages(rule=rule, roll=roll), stages(rule, roll))
        self.assertEqual(course(rule=rule, roll=roll), course(rule, roll))
        self.assertEqual(winners(rule=rule, roll=roll), winners(rule, roll))

    def test_nothing_is_changed_and_equal_calls_are_equal(self):
        rule, roll = rule_of(seats=2, hand=(1, 2)), roll_of("4 ac, 3 ba, 3 cb")
        first = (stages(rule, roll), course(rule, roll), winners(rule, roll))
        stages(rule_of(), roll_of("1 a"))
        self.assertEqual((stages(rule, roll), course(rule, roll), winners(rule, roll)), first)
        self.assertEqual(rule, rule_of(seats=2, hand=(1, 2)))
        self.assertEqual(roll, roll_of("4 ac, 3 ba, 3 cb"))

    def test_equal_rolls_are_counted_alike(self):
        items = [(("a", "c"), 4), (("b", "a"), 3), (("c", "b"), 3)]
        self.assertEqual(stages(rule_of(), Roll(THREE, items[::-1])),
                         stages(rule_of(), Roll(THREE, tuple(items))))


if __name__ == "__main__":
    unittest.main()
