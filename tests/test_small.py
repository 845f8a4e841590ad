"""[19] and [20] by small.py: smallest, held against a plain search through all rolls."""

import itertools
import random
import unittest

import plain
from drawn import FOUR, THREE, TWO, drawn_question, drawn_range, drawn_rule
from handedvotes.errors import BadKinds, BadNumber, BadQuestion, TooMany
from handedvotes.papers import all_kinds
from handedvotes.questions import answer, check, is_never
from handedvotes.rolls import Roll
from handedvotes.rules import Rule, all_courses
from handedvotes.small import smallest
from odd_values import Stubborn, nested, odd_numbers, odd_values

A, B, AB, BA = ("a",), ("b",), ("a", "b"), ("b", "a")
IN_A, IN_B, OUT_A, OUT_B = (("in", "a"),), (("in", "b"),), (("out", "a"),), (("out", "b"),)
# Ties go to a; with the other order they go to b.
RULE = Rule(TWO, 1, (1, 2), False, (0, 1), TWO)
TURNED = RULE.with_order(("b", "a"))
EXAMPLE = Rule(THREE, 1, (1, 2), True, (0, 1), THREE)
CYCLE = (("a", "c"), ("b", "a"), ("c", "b"))
MOVED = (("a", "b", "c"), ("b", "a", "c"), ("b", "c", "a"), ("c", "a", "b"))
# Two seats, and most of what a winner's papers are worth is handed on.
HANDED = Rule(THREE, 2, (1, 2), False, (2, 3), ("a", "c", "b"))
WORDS = ("course", "raise", "stay", "halves", "part")
QUESTIONS = (("course", IN_B), ("raise", "a"), ("stay", BA), ("halves",), ("part", TURNED))


def roll_of(*items, names=TWO):
    return Roll(names, items)


def measured(question, rolls):
    """How many papers there are in the roll that is to have few."""
    return rolls[2 if question[0] == "halves" else 0].total()


class SmallestTestCase(unittest.TestCase):
    def held(self, rule, question, kinds, most):
        """What is told, held against the plain search, the plain words, and check."""
        told = smallest(rule, question, kinds, most)
        expected = plain.fewest(rule, question, kinds, most)
        if expected is None:
            self.assertIsNone(told)
            return None
        self.assertIsInstance(told, tuple)
        for roll in told:
            self.assertIsInstance(roll, Roll)
            self.assertEqual(roll.names, rule.names)
        self.assertEqual(measured(question, told), expected)
        self.held_rolls(rule, question, kinds, told)
        return told

    def held_rolls(self, rule, question, kinds, rolls):
        papers = [roll.papers for roll in rolls]
        counted = papers * 2 if question[0] == "part" else papers
        called = tuple([plain.course(one, some) for one, some in zip(plain.rules_of(rule, question), counted)])
        self.assertEqual(len(rolls), len(plain.brought_by(question, kinds)))
        self.assertTrue(plain.is_shown(rule, question, kinds, called, papers))
        self.assertEqual(check(rule, question, kinds, ("rolls", called, rolls)), "rolls")


class ByHandTest(SmallestTestCase):
    def test_course(self):
        self.assertEqual(smallest(RULE, ("course", IN_B), (A, B), 8), (roll_of((B, 1)),))
        self.assertEqual(smallest(RULE, ("course", IN_B), (A, BA), 1), (roll_of((BA, 1)),))
        self.assertIsNone(smallest(RULE, ("course", IN_B), (A, AB), 8))
        # More than a half is had by nobody just at a tie.
        over = RULE.with_quota((1, 2), True)
        self.assertEqual(smallest(over, ("course", OUT_B), (A, B), 8), (roll_of((A, 1), (B, 1)),))
        self.assertIsNone(smallest(over, ("course", OUT_B), (A, B), 1))

    def test_course_of_the_example(self):
        told = self.held(EXAMPLE, ("course", (("out", "c"), ("in", "b"))), CYCLE, 8)
        self.assertEqual(told, (Roll(THREE, [(kind, 1) for kind in CYCLE]),))

    def test_part(self):
        self.assertEqual(smallest(RULE, ("part", TURNED), (A, B), 8), (roll_of((A, 1), (B, 1)),))
        self.assertIsNone(smallest(RULE, ("part", TURNED), (A, B), 1))
        self.assertIsNone(smallest(RULE, ("part", RULE.with_seats(1)), (A, B), 8))
        # With other seats each roll has other winners.
        more = EXAMPLE.with_seats(2)
        self.assertEqual(measured(("part", more), self.held(EXAMPLE, ("part", more), CYCLE, 3)), 1)

    def test_stay(self):
        told = self.held(EXAMPLE, ("stay", ("c", "b")), CYCLE, 8)
        self.assertEqual([roll.total() for roll in told], [4, 3])
        self.assertIsNone(smallest(EXAMPLE, ("stay", ("c", "b")), CYCLE, 3))
        self.assertIsNone(smallest(EXAMPLE.with_quota((1, 3), False), ("stay", ("c", "b")), CYCLE, 8))

    def test_stay_with_a_paper_out_of_the_range(self):
        question = ("stay", ("c", "b", "a"))
        told = self.held(EXAMPLE, question, CYCLE, 8)
        self.assertEqual(told, (Roll(THREE, [(kind, 1) for kind in CYCLE + (question[1],)]),
                                Roll(THREE, [(kind, 1) for kind in CYCLE])))

    def test_those_out_of_the_range_have_all_to_stay_away(self):
        # Of four papers with c>b two may stay away; but if c>b is not in the range, none of them is left.
        kinds = (("a", "c"), ("b", "a"))
        for most in range(1, 7):
            self.assertIsNone(self.held(EXAMPLE, ("stay", ("c", "b")), kinds, most))
        self.assertIsNotNone(self.held(EXAMPLE, ("stay", ("c", "b")), CYCLE, 4))

    def test_some_paper_is_left_by_those_who_stay_away(self):
        for paper in all_kinds(TWO):
            for rule in (RULE, TURNED):
                self.assertIsNone(smallest(rule, ("stay", paper), (paper,), 8))
                self.assertIsNone(plain.fewest(rule, ("stay", paper), (paper,), 5))

    def test_halves(self):
        told = self.held(EXAMPLE, ("halves",), CYCLE, 8)
        self.assertEqual(told[2].total(), 5)
        self.assertEqual(told[0] + told[1], told[2])
        self.assertIsNone(smallest(EXAMPLE, ("halves",), CYCLE, 4))
        self.assertIsNone(smallest(RULE, ("halves",), all_kinds(TWO), 8))

    def test_raise_needs_more_than_eight_papers(self):
        # One more than may be gone through: 9 papers show it.
        self.assertIs(is_never(EXAMPLE, ("raise", "a"), MOVED), False)
        self.assertIsNone(smallest(EXAMPLE, ("raise", "a"), MOVED, 8))

    def test_raise(self):
        # b comes in behind c, unless c has fewer papers that could be handed on.
        told = self.held(HANDED, ("raise", "b"), (AB, ("c", "b")), 8)
        self.assertEqual(told, (roll_of((AB, 1), (("c", "b"), 2), names=THREE),
                                roll_of((AB, 1), (("b", "c"), 1), (("c", "b"), 1), names=THREE)))
        self.assertIsNone(self.held(HANDED, ("raise", "b"), (AB, ("c", "b")), 2))
        self.assertIsNone(self.held(HANDED, ("raise", "a"), (AB, ("c", "b")), 5))

    def test_moves_to_kinds_in_the_range_and_out_of_it(self):
        out = self.held(HANDED, ("raise", "b"), (A, BA, ("c", "b")), 4)
        self.assertEqual(out[1][("b", "c")], 1)
        within = self.held(HANDED, ("raise", "b"), (AB, ("b", "c"), ("c", "b")), 4)
        self.assertEqual((out[0].total(), within[0].total()), (3, 3))

    def test_raise_by_several_moves_with_several_papers(self):
        found = 0
        for order in itertools.permutations(THREE):
            for quota in ((1, 2), (1, 3), (2, 5)):
                told = self.held(EXAMPLE.with_order(order).with_quota(quota, True), ("raise", "a"), MOVED, 7)
                found += told is not None
        self.assertGreater(found, 0)


class DrawnTest(SmallestTestCase):
    def test_two_and_three_names(self):
        source = random.Random(70)
        found = {}
        for word in WORDS:
            for _ in range(60):
                names = source.choice([TWO, THREE, THREE, THREE])
                rule = drawn_rule(source, names)
                question = drawn_question(source, rule, word)
                kinds = drawn_range(source, names, 4)
                told = self.held(rule, question, kinds, source.choice([1, 2, 3, 4, 5, 5]))
                found[word, told is None] = found.get((word, told is None), 0) + 1
        # Both come, for most sorts of questions; the next test has more of those that are seldom.
        self.assertGreater(len(found), 7)

    def test_ties_make_small_rolls(self):
        source = random.Random(71)
        found = {}
        for word in ("raise", "stay", "halves"):
            for _ in range(30):
                rule = Rule(THREE, 2, source.choice([(1, 2), (1, 3), (2, 3)]), source.random() < 0.5,
                            source.choice([(1, 2), (2, 3), (1, 1)]), tuple(source.sample(THREE, 3)))
                question = drawn_question(source, rule, word)
                told = self.held(rule, question, tuple(sorted(source.sample(all_kinds(THREE), 4))), 5)
                found[word] = found.get(word, 0) + (told is not None)
        self.assertEqual(len(found), 3)
        self.assertGreater(min(found.values()), 2)

    def test_courses_of_four_names(self):
        source = random.Random(72)
        found = 0
        for _ in range(40):
            rule = drawn_rule(source, FOUR)
            kinds = drawn_range(source, FOUR, 4)
            had = plain.course(rule, [(kind, source.randint(1, 2)) for kind in kinds])
            for question in (("course", had), drawn_question(source, rule, "course")):
                told = self.held(rule, question, kinds, 4)
                found += told is not None
        self.assertGreater(found, 2)

    def test_both_ways_agree(self):
        """What small rolls show is not barred; what is barred is shown by none."""
        source = random.Random(73)
        words = {}
        for word in WORDS:
            for _ in range(20):
                rule = drawn_rule(source, THREE)
                question = drawn_question(source, rule, word)
                kinds = drawn_range(source, THREE, 3 if word == "halves" else 5)
                told = smallest(rule, question, kinds, 6)
                never = is_never(rule, question, kinds)
                self.assertFalse(never and told is not None)
                if told is not None:
                    self.held_rolls(rule, question, kinds, told)
                    self.assertIsNone(self.with_fewer(rule, question, kinds, told))
                words[never, told is None] = words.get((never, told is None), 0) + 1
        self.assertEqual(sorted(words), [(False, False), (False, True), (True, True)])

    def with_fewer(self, rule, question, kinds, told):
        many = measured(question, told)
        return smallest(rule, question, kinds, many - 1) if many > 1 else None

    def test_answers_are_not_smaller(self):
        source = random.Random(74)
        compared = 0
        for word in WORDS:
            for _ in range(15):
                rule = drawn_rule(source, THREE)
                question = drawn_question(source, rule, word)
                kinds = drawn_range(source, THREE, 3)
                other = answer(rule, question, kinds)
                if other[0] == "rolls" and measured(question, other[2]) <= 8:
                    told = smallest(rule, question, kinds, 8)
                    self.assertLessEqual(measured(question, told), measured(question, other[2]))
                    compared += 1
        self.assertGreater(compared, 10)

    def test_the_most_that_may_be_asked(self):
        source = random.Random(75)
        for word in WORDS:
            for _ in range(2):
                rule = drawn_rule(source, THREE)
                question = drawn_question(source, rule, word)
                kinds = tuple(sorted(source.sample(all_kinds(THREE), 6)))
                told = smallest(rule, question, kinds, 8)
                if told is not None:
                    self.held_rolls(rule, question, kinds, told)
                    self.assertLessEqual(measured(question, told), 8)
                    self.assertIsNone(self.with_fewer(rule, question, kinds, told))
                    self.assertEqual(smallest(rule, question, kinds, measured(question, told)), told)


class RefusedTest(SmallestTestCase):
    def refused(self, error, value, rule, question, kinds, most):
        with self.assertRaises(error) as caught:
            smallest(rule, question, kinds, most)
        self.assertIs(caught.exception.__class__, error)
        self.assertIs(caught.exception.most if error is TooMany else caught.exception.value, value)

    def test_no_question(self):
        wrong = odd_values() + [
            "halves", ("halves", 1), ["halves"], ("raise", "c"), ("raise", A), ("raise",), ("stay", ()), ("stay", "a"),
            ("stay", ("a", "c")), ("course", ()), ("course", IN_A + IN_B), ("course", list(IN_A)), ("part", EXAMPLE),
            ("part", None), ("raise", Stubborn()), (Stubborn(), "a"), ("part", RULE, RULE), RULE, nested(40)]
        for question in wrong:
            for kinds, most in (((A, B), 1), (None, 1), ((A, B), 0), (all_kinds(TWO) * 2, None)):
                self.refused(BadQuestion, question, RULE, question, kinds, most)

    def test_no_range(self):
        wrong = odd_values() + [(B, A), (A, A), (A, ("c",)), [A], (["a"],), "ab", (A, ()), (A, Stubborn()), RULE,
                                {A: 1}]
        for question in QUESTIONS:
            for kinds in wrong:
                for most in (1, 0, None):
                    self.refused(BadKinds, kinds, RULE, question, kinds, most)

    def test_more_than_three_names(self):
        rule = Rule(FOUR, 1, (1, 2), False, (0, 1), FOUR)
        for question in (("raise", "ann"), ("stay", ("ann",)), ("halves",), ("part", rule)):
            for kinds in ((("ann",),), all_kinds(FOUR)):
                for most in (1, 9, None, True):
                    self.refused(TooMany, 3, rule, question, kinds, most)
            self.refused(BadKinds, (), rule, question, (), 1)

    def test_numbers(self):
        wrong = odd_numbers() + [0, 9, -1, 10 ** 999, True, False, "1", (1,), None, 100, RULE]
        for most in wrong:
            for question in QUESTIONS:
                self.refused(BadNumber, most, RULE, question, (A, B), most)
            seven = all_kinds(THREE)[:7]
            self.refused(BadNumber, most, EXAMPLE, ("halves",), seven, most)
            self.refused(BadNumber, most, EXAMPLE, ("course", (("in", "a"),)), seven, most)

    def test_more_than_six_kinds(self):
        for many in (7, 8, 15):
            for question in (("course", (("in", "a"),)), ("raise", "a"), ("stay", A), ("halves",), ("part", EXAMPLE)):
                for most in (1, 8):
                    self.refused(TooMany, 6, EXAMPLE, question, all_kinds(THREE)[:many], most)
        rule = Rule(FOUR, 1, (1, 2), False, (0, 1), FOUR)
        self.refused(TooMany, 6, rule, ("course", (("in", "ann"),)), all_kinds(FOUR), 8)

    def test_six_kinds_are_let_by(self):
        for kinds in (all_kinds(THREE)[:6], all_kinds(THREE)[-6:]):
            for question in (("course", (("in", "a"),)), ("raise", "a"), ("stay", A), ("halves",), ("part", EXAMPLE)):
                for most in (1, 3):
                    self.held(EXAMPLE, question, kinds, most)
        # A told paper out of the range is a kind more, but not one of the range.
        self.held(EXAMPLE, ("stay", ("c", "b")), all_kinds(THREE)[:6], 3)

    def test_every_number_from_1_to_8_is_let_by(self):
        for most in range(1, 9):
            told = smallest(EXAMPLE, ("stay", ("c", "b")), CYCLE, most)
            self.assertEqual(told is None, most < 4)


class ConventionsTest(SmallestTestCase):
    def test_by_parameter_names(self):
        for question in QUESTIONS:
            self.assertEqual(smallest(rule=RULE, question=question, kinds=(A, B), most=4),
                             smallest(RULE, question, (A, B), 4))

    def test_equal_calls_are_equal_whatever_was_asked_in_between(self):
        asked = [(EXAMPLE, ("stay", ("c", "b")), CYCLE, 8), (EXAMPLE, ("halves",), CYCLE, 7),
                 (RULE, ("part", TURNED), (A, B), 2), (EXAMPLE, ("raise", "a"), MOVED, 5),
                 (EXAMPLE, ("course", (("out", "c"), ("in", "b"))), CYCLE, 8)]
        first = [smallest(*one) for one in asked]
        self.assertEqual([smallest(*one) for one in asked], first)
        self.assertEqual([smallest(*one) for one in asked[::-1]], first[::-1])
        self.assertEqual(EXAMPLE, Rule(THREE, 1, (1, 2), True, (0, 1), THREE))

    def test_every_course_is_had_by_the_roll_that_is_told(self):
        for course in all_courses(EXAMPLE):
            told = smallest(EXAMPLE, ("course", course), all_kinds(THREE)[:6], 4)
            if told is not None:
                self.assertEqual(plain.course(EXAMPLE, told[0].papers), course)


if __name__ == "__main__":
    unittest.main()
