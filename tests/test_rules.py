"""[12] to [15] by rules.py, with [0], [2], [3] and [4] as far as they speak of rules."""

import itertools
import operator
import unittest

from handedvotes.errors import BadCourse, BadNames, BadRule
from handedvotes.papers import all_kinds
from handedvotes.rolls import Roll
from handedvotes.rules import Rule, all_courses, units, winners_of
from odd_values import Stubborn, odd_numbers, odd_values

TWO = ("a", "b")
THREE = ("a", "b", "c")
FOUR = ("ann", "bob", "cy", "dee")
FIELDS = ("names", "seats", "quota", "over", "hand", "order")
GOOD = {"names": THREE, "seats": 1, "quota": (1, 2), "over": True, "hand": (0, 1), "order": THREE}


def rule_with(**changed):
    return Rule(**{**GOOD, **changed})


def rule_of(names, seats):
    return Rule(names, seats, (1, 2), False, (1, 2), names)


def fields_of(rule):
    return {field: getattr(rule, field) for field in FIELDS}


def wrong_pairs():
    """Values that are no pairs of integers."""
    return odd_values() + [(1,), (1, 2, 3), [1, 2], (True, 2), (1, True), (False, 1), (0, True),
                           ("1", "2"), (None, 1), (1, None), (Stubborn(), 2), (1, Stubborn()),
                           ((1,), 2), {1: 2}, "12", range(1, 3), rule_with()]


WRONG = {
    "seats": odd_numbers() + [0, -1, 3, 4, 10 ** 999, True, False, (1,), rule_with()],
    "quota": wrong_pairs() + [(0, 1), (0, 0), (1, 1), (2, 1), (100, 100), (1, 101), (100, 101),
                              (-1, 2), (-2, -1), (1, -2), (1, 10 ** 999)],
    "over": [None, 0, 1, -1, 2, "", "yes", "True", b"", (), (True,), [], [True], {}, Stubborn(),
             object(), rule_with(), bool],
    "hand": wrong_pairs() + [(0, 0), (1, 0), (2, 1), (-1, 1), (-1, -1), (0, 101), (101, 101),
                             (101, 100), (0, -1), (0, 10 ** 999)],
    "order": odd_values() + [list(THREE), "abc", ("a", "b"), ("a", "b", "c", "a"),
                             ("a", "b", "b"), ("a", "b", "d"), ("a", "b", "c", "d"),
                             ("a", "b", None), ("a", "b", ("c",)), (Stubborn(), "a", "b"),
                             ({}, [], set()), THREE + THREE, rule_with()],
}


class RuleTestCase(unittest.TestCase):
    def refused(self, place, call, *told, **named):
        with self.assertRaises(BadRule) as caught:
            call(*told, **named)
        self.assertEqual(caught.exception.place, place)


class MakingTest(RuleTestCase):
    def test_fields(self):
        rule = Rule(FOUR, 2, (1, 3), False, (2, 5), ("dee", "ann", "cy", "bob"))
        self.assertEqual(fields_of(rule), {
            "names": FOUR, "seats": 2, "quota": (1, 3), "over": False, "hand": (2, 5),
            "order": ("dee", "ann", "cy", "bob")})
        self.assertIs(rule.over, False)

    def test_by_parameter_names(self):
        self.assertEqual(fields_of(Rule(**GOOD)), GOOD)

    def test_bounds(self):
        for field, values in {
            "seats": (1, 2),
            "quota": ((1, 2), (1, 100), (99, 100), (50, 100), (2, 4)),
            "over": (True, False),
            "hand": ((0, 1), (1, 1), (0, 100), (100, 100), (99, 100), (1, 2), (2, 4)),
            "order": tuple(itertools.permutations(THREE)),
        }.items():
            for value in values:
                self.assertEqual(getattr(rule_with(**{field: value}), field), value)

    def test_seats_hang_on_the_names(self):
        for names in (TWO, THREE, FOUR):
            for seats in range(1, len(names)):
                self.assertEqual(rule_of(names, seats).seats, seats)
            for seats in (0, len(names), len(names) + 1):
                self.refused("seats", rule_of, names, seats)

    def test_names_first(self):
        for names in odd_values() + [list(THREE), ("b", "a"), ("a",), tuple("abcde")]:
            with self.assertRaises(BadNames) as caught:
                Rule(names, 0, None, None, None, None)
            self.assertIs(caught.exception.value, names)
            with self.assertRaises(BadNames) as caught:
                rule_with(names=names)
            self.assertIs(caught.exception.value, names)

    def test_each_field_beyond_its_bounds_and_of_other_kinds(self):
        for place, values in WRONG.items():
            for value in values:
                self.refused(place, rule_with, **{place: value})

    def test_the_first_of_several_wrong_fields_is_told(self):
        places = FIELDS[1:]
        wrong = {"seats": 0, "quota": (1, 1), "over": 1, "hand": (0, 0), "order": ()}
        for several in range(1, len(places) + 1):
            for some in itertools.combinations(places, several):
                self.refused(some[0], rule_with, **{place: wrong[place] for place in some})


class OtherFieldTest(RuleTestCase):
    def changed(self, rule, **changed):
        self.assertIsInstance(rule, Rule)
        self.assertEqual(fields_of(rule), {**GOOD, **changed})

    def test_with_another_field(self):
        rule = rule_with()
        self.changed(rule.with_seats(2), seats=2)
        self.changed(rule.with_quota((1, 3), False), quota=(1, 3), over=False)
        self.changed(rule.with_quota((1, 2), False), over=False)
        self.changed(rule.with_hand((3, 4)), hand=(3, 4))
        self.changed(rule.with_order(("c", "a", "b")), order=("c", "a", "b"))
        self.assertEqual(fields_of(rule), GOOD)

    def test_by_parameter_names(self):
        rule = rule_with()
        self.changed(rule.with_seats(seats=2), seats=2)
        self.changed(rule.with_quota(quota=(1, 3), over=False), quota=(1, 3), over=False)
        self.changed(rule.with_hand(hand=(3, 4)), hand=(3, 4))
        self.changed(rule.with_order(order=("c", "a", "b")), order=("c", "a", "b"))

    def test_the_same_field_gives_an_equal_rule(self):
        rule = rule_with()
        for other in (rule.with_seats(1), rule.with_quota((1, 2), True), rule.with_hand((0, 1)),
                      rule.with_order(THREE)):
            self.assertEqual(other, rule)

    def test_errors(self):
        rule = rule_with()
        for seats in WRONG["seats"]:
            self.refused("seats", rule.with_seats, seats)
        for quota in WRONG["quota"]:
            self.refused("quota", rule.with_quota, quota, True)
            self.refused("quota", rule.with_quota, quota, None)
        for over in WRONG["over"]:
            self.refused("over", rule.with_quota, (1, 2), over)
        for hand in WRONG["hand"]:
            self.refused("hand", rule.with_hand, hand)
        for order in WRONG["order"]:
            self.refused("order", rule.with_order, order)
        self.assertEqual(fields_of(rule), GOOD)


class OperatorTest(unittest.TestCase):
    def test_equal(self):
        self.assertIs(rule_with() == rule_with(), True)
        self.assertIs(rule_with() != rule_with(), False)

    def test_unlike_in_one_field_alone(self):
        unlike = {"seats": 2, "quota": (2, 4), "over": False, "hand": (0, 2),
                  "order": ("a", "c", "b")}
        for field, value in unlike.items():
            self.assertIs(rule_with() == rule_with(**{field: value}), False, field)
            self.assertIs(rule_with() != rule_with(**{field: value}), True, field)

    def test_unlike_in_the_names(self):
        # The order has just the names, so rules that are unlike here are unlike there, too.
        self.assertFalse(rule_of(THREE, 1) == rule_of(("a", "b", "d"), 1))
        self.assertFalse(rule_of(THREE, 1) == rule_of(TWO, 1))

    def test_unlike_other_values(self):
        roll = Roll(THREE, [(("a",), 1)])
        for other in (None, True, 1, "a", THREE, tuple(GOOD.values()), GOOD, roll, object(), Rule):
            self.assertIs(rule_with() == other, False)
            self.assertIs(rule_with() != other, True)
            self.assertIs(other == rule_with(), False)
            self.assertIs(other != rule_with(), True)

    def test_operators_that_are_not_described(self):
        operators = [operator.add, operator.mul, operator.sub, operator.truediv, operator.floordiv,
                     operator.mod, operator.pow, operator.matmul, operator.and_, operator.or_,
                     operator.xor, operator.lshift, operator.rshift, operator.lt, operator.le,
                     operator.gt, operator.ge]
        for use in operators:
            for other in (rule_with(), 1, None, THREE):
                with self.assertRaises(TypeError):
                    use(rule_with(), other)
                with self.assertRaises(TypeError):
                    use(other, rule_with())

    def test_not_iterated_over(self):
        for use in (iter, list, tuple, sorted):
            with self.assertRaises(TypeError):
                use(rule_with())
        for thing in ("a", 1, None, rule_with()):
            with self.assertRaises(TypeError):
                thing in rule_with()
            with self.assertRaises(TypeError):
                thing not in rule_with()


class UnitsTest(unittest.TestCase):
    def test_units(self):
        for names in (TWO, THREE, FOUR):
            for seats in range(1, len(names)):
                for low, high in ((0, 1), (1, 1), (1, 2), (2, 7), (0, 100), (100, 100)):
                    rule = rule_of(names, seats).with_hand((low, high))
                    self.assertEqual(units(rule), high ** seats)

    def test_by_parameter_name(self):
        self.assertEqual(units(rule=rule_of(FOUR, 3)), 8)


def ends(names, seats, course):
    """Whether a count has ended behind the steps, by the words of [14]."""
    came = len([word for word, name in course if word == "in"])
    return came == seats or len(names) - len(course) <= seats - came


def expected_courses(names, seats):
    """All tuples of steps that can come, picked out of all tuples of steps."""
    steps = list(itertools.product(("in", "out"), names))
    found = []
    for length in range(len(names) + 1):
        for course in itertools.product(steps, repeat=length):
            apart = len({name for word, name in course}) == length
            early = [at for at in range(length) if ends(names, seats, course[:at])]
            if apart and not early and ends(names, seats, course):
                found.append(course)
    return sorted(found)


class AllCoursesTest(unittest.TestCase):
    def test_two_names(self):
        self.assertEqual(all_courses(rule_of(TWO, 1)),
                         ((("in", "a"),), (("in", "b"),), (("out", "a"),), (("out", "b"),)))

    def test_how_many(self):
        for names, seats, number in ((TWO, 1, 4), (THREE, 1, 15), (THREE, 2, 15), (FOUR, 1, 64),
                                     (FOUR, 2, 120), (FOUR, 3, 64)):
            self.assertEqual(len(all_courses(rule_of(names, seats))), number)

    def test_all_that_can_come_ascending(self):
        for names in (TWO, THREE, FOUR):
            for seats in range(1, len(names)):
                courses = all_courses(rule_of(names, seats))
                self.assertIsInstance(courses, tuple)
                self.assertEqual(list(courses), expected_courses(names, seats))

    def test_they_hang_on_names_and_seats_alone(self):
        one = rule_of(THREE, 2)
        other = one.with_quota((99, 100), True).with_hand((0, 7)).with_order(("c", "b", "a"))
        self.assertEqual(all_courses(one), all_courses(other))

    def test_by_parameter_name(self):
        self.assertEqual(all_courses(rule=rule_of(TWO, 1)), all_courses(rule_of(TWO, 1)))


class WinnersOfTest(unittest.TestCase):
    def refused(self, rule, course):
        with self.assertRaises(BadCourse) as caught:
            winners_of(rule, course)
        self.assertIs(caught.exception.value, course)

    def test_a_full_number_of_seats(self):
        self.assertEqual(winners_of(rule_of(THREE, 1), (("in", "b"),)), ("b",))
        self.assertEqual(winners_of(rule_of(THREE, 1), (("out", "a"), ("in", "c"))), ("c",))
        self.assertEqual(winners_of(rule_of(THREE, 2), (("in", "c"), ("in", "a"))), ("a", "c"))
        self.assertEqual(winners_of(rule_of(FOUR, 2), (("in", "dee"), ("out", "ann"), ("in", "bob"))),
                         ("bob", "dee"))

    def test_the_rest_comes_in(self):
        self.assertEqual(winners_of(rule_of(THREE, 1), (("out", "a"), ("out", "c"))), ("b",))
        self.assertEqual(winners_of(rule_of(THREE, 2), (("out", "b"),)), ("a", "c"))
        self.assertEqual(winners_of(rule_of(THREE, 2), (("in", "c"), ("out", "a"))), ("b", "c"))
        self.assertEqual(winners_of(rule_of(FOUR, 3), (("out", "ann"),)), ("bob", "cy", "dee"))

    def test_every_course_has_as_many_winners_as_seats(self):
        for names in (TWO, THREE, FOUR):
            for seats in range(1, len(names)):
                rule = rule_of(names, seats)
                for course in all_courses(rule):
                    came = [name for word, name in course if word == "in"]
                    out = [name for word, name in course if word == "out"]
                    lot = winners_of(rule, course)
                    self.assertIsInstance(lot, tuple)
                    self.assertEqual(len(lot), seats)
                    self.assertEqual(list(lot), sorted(lot))
                    self.assertFalse(set(came) - set(lot))
                    self.assertFalse(set(out) & set(lot))

    def test_by_parameter_names(self):
        self.assertEqual(winners_of(rule=rule_of(TWO, 1), course=(("in", "a"),)), ("a",))

    def test_steps_that_cannot_come(self):
        rule = rule_of(THREE, 1)
        for course in [
            (), (("out", "a"),), (("in", "a"), ("in", "b")), (("in", "a"), ("out", "b")),
            (("out", "a"), ("out", "a")), (("out", "a"), ("in", "a")),
            (("out", "a"), ("out", "b"), ("in", "c")), (("out", "a"), ("out", "b"), ("out", "c")),
        ]:
            self.refused(rule, course)
        self.refused(rule_of(THREE, 2), (("in", "a"),))
        self.refused(rule_of(THREE, 2), (("in", "a"), ("in", "a")))
        self.refused(rule_of(THREE, 2), (("out", "a"), ("in", "b")))
        self.refused(rule_of(THREE, 2), (("in", "a"), ("in", "b"), ("in", "c")))

    def test_forms_that_are_no_course(self):
        rule = rule_of(THREE, 1)
        for course in [
            [("in", "a")], ("in", "a"), "in", (["in", "a"],), ({"in": "a"},), (("in",),),
            (("in", "a", "b"),), (("in", "d"),), (("In", "a"),), (("", "a"),), (("a", "in"),),
            (("in", "A"),), (("in", ""),), (("in", None),), ((None, "a"),), (("in", ("a",)),),
            ((b"in", "a"),), (("in", b"a"),), ((True, "a"),), ((("in",), "a"),), (("in", ["a"]),),
            (("i", "a"),), (("out", "a"), "in"), (("out", "a"), ("in",)), (("out", "a"), None),
            ((Stubborn(), "a"),), (("in", Stubborn()),), (("out", "a"), Stubborn()),
            ((("in", "a"),),), {("in", "a"): 1}, {("in", "a")}, (("out", "a"),) * 5000,
        ]:
            self.refused(rule, course)

    def test_every_other_value(self):
        rule = rule_of(THREE, 1)
        for thing in odd_values() + [rule, Roll(THREE, [(("a",), 1)]), all_kinds(THREE)]:
            self.refused(rule, thing)
            self.refused(rule, (thing,))
            self.refused(rule, (("out", "a"), thing))
            self.refused(rule, (("in", thing),))
            self.refused(rule, ((thing, "a"),))

    def test_courses_of_other_rules(self):
        for course in all_courses(rule_of(("x", "y", "z"), 1)):
            self.refused(rule_of(THREE, 1), course)
        for course in set(all_courses(rule_of(THREE, 2))) - set(all_courses(rule_of(THREE, 1))):
            self.refused(rule_of(THREE, 1), course)


if __name__ == "__main__":
    unittest.main()
