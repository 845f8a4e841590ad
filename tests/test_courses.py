"""[15] by courses.py: shown, possible_winners and can_win."""

import random
import unittest

import plain
from drawn import FOUR, THREE, TWO, drawn_range, drawn_rule
from handedvotes.cells import are_bars
from handedvotes.counts import course as course_of
from handedvotes.courses import can_win, possible_winners, shown
from handedvotes.errors import BadKinds, TooMany
from handedvotes.papers import all_kinds
from handedvotes.questions import systems
from handedvotes.rolls import Roll
from handedvotes.rules import Rule
from odd_values import Stubborn, nested, odd_values

RULE = Rule(TWO, 1, (1, 2), False, (0, 1), TWO)
EXAMPLE = Rule(THREE, 1, (1, 2), True, (0, 1), THREE)
CYCLE = (("a", "c"), ("b", "a"), ("c", "b"))
IN_A, IN_B, OUT_A, OUT_B = (("in", "a"),), (("in", "b"),), (("out", "a"),), (("out", "b"),)
ALL_THREE = (shown, possible_winners, can_win)


class CoursesTestCase(unittest.TestCase):
    def held(self, rule, kinds):
        """What is shown, held against the plain words; the lots and names of it, too."""
        told = shown(rule, kinds)
        self.assertIsInstance(told, tuple)
        self.assertEqual([item[0] for item in told], plain.courses(rule))
        lots = set()
        for item in told:
            self.assertIsInstance(item, tuple)
            self.assertEqual(len(item), 3)
            self.held_item(rule, kinds, item)
            if item[1] == "roll":
                lots.add(plain.lot_of(rule, item[0]))
        self.assertEqual(possible_winners(rule, kinds), tuple(sorted(lots)))
        self.assertEqual(can_win(rule, kinds), tuple(sorted({name for lot in lots for name in lot})))
        return {item[0]: item[1] for item in told}

    def held_item(self, rule, kinds, item):
        course, word, found = item
        if word == "roll":
            self.assertIsInstance(found, Roll)
            self.assertEqual(found.names, rule.names)
            self.assertTrue({paper for paper, _ in found.papers} <= set(kinds))
            self.assertEqual(plain.course(rule, found.papers), course)
            self.assertEqual(course_of(rule, found), course)
        else:
            self.assertEqual(word, "bars")
            self.assertTrue(plain.are_bars(plain.systems(rule, ("course", course), kinds)[0], found))
            self.assertTrue(are_bars(systems(rule, ("course", course), kinds)[0], found))


class ByHandTest(CoursesTestCase):
    def test_two_names(self):
        words = self.held(RULE, (("a",), ("b",)))
        self.assertEqual(words, {IN_A: "roll", IN_B: "roll", OUT_A: "bars", OUT_B: "bars"})
        self.assertEqual(possible_winners(RULE, (("a",), ("b",))), (("a",), ("b",)))
        self.assertEqual(can_win(RULE, (("a",), ("b",))), ("a", "b"))

    def test_over(self):
        over = RULE.with_quota((1, 2), True)
        words = self.held(over, (("a",), ("b",)))
        # Only when both have just a half nobody has more than it; then b goes out.
        self.assertEqual(words, {IN_A: "roll", IN_B: "roll", OUT_A: "bars", OUT_B: "roll"})

    def test_a_range_of_one_kind(self):
        for kind, words, lots in ((("a",), ["roll", "bars"], (("a",),)), (("b", "a"), ["bars", "roll"], (("b",),))):
            found = self.held(RULE, (kind,))
            self.assertEqual([found[IN_A], found[IN_B], found[OUT_A], found[OUT_B]], words + ["bars", "bars"])
            self.assertEqual(possible_winners(RULE, (kind,)), lots)
            self.assertEqual(can_win(RULE, (kind,)), lots[0])

    def test_one_kind_has_one_course(self):
        source = random.Random(150)
        for names in (TWO, THREE, FOUR):
            for _ in range(4):
                rule = drawn_rule(source, names)
                kind = source.choice(all_kinds(names))
                words = self.held(rule, (kind,))
                only = plain.course(rule, ((kind, 1),))
                self.assertEqual([course for course in words if words[course] == "roll"], [only])
                self.assertEqual(possible_winners(rule, (kind,)), (plain.lot_of(rule, only),))
                self.assertEqual(can_win(rule, (kind,)), plain.lot_of(rule, only))

    def test_names_that_win_with_others_alone(self):
        rule = Rule(THREE, 2, (1, 2), True, (0, 1), THREE)
        # All papers begin with c; of the others a is ahead of b at a tie.
        self.held(rule, (("c",), ("c", "a")))
        self.assertEqual(possible_winners(rule, (("c",), ("c", "a"))), (("a", "c"),))
        self.assertEqual(can_win(rule, (("c",), ("c", "a"))), ("a", "c"))
        self.held(rule, (("b",), ("c",)))
        self.assertEqual(possible_winners(rule, (("b",), ("c",))), (("a", "b"), ("a", "c"), ("b", "c")))
        self.assertEqual(can_win(rule, (("b",), ("c",))), ("a", "b", "c"))

    def test_lots_ascend_and_are_told_once(self):
        self.held(EXAMPLE, CYCLE)
        self.assertEqual(possible_winners(EXAMPLE, CYCLE), (("a",), ("b",), ("c",)))
        self.held(EXAMPLE.with_seats(2), CYCLE)
        self.assertEqual(possible_winners(EXAMPLE.with_seats(2), CYCLE), (("a", "b"), ("a", "c"), ("b", "c")))


class DrawnTest(CoursesTestCase):
    def test_drawn_ranges(self):
        source = random.Random(151)
        words = {}
        for _ in range(30):
            names = source.choice([TWO, THREE, THREE])
            rule = drawn_rule(source, names)
            for word in self.held(rule, drawn_range(source, names, 6)).values():
                words[word] = words.get(word, 0) + 1
        self.assertGreater(min(words["roll"], words["bars"]), 50)

    def test_the_rolls_of_a_range_have_no_other_courses(self):
        source = random.Random(152)
        for _ in range(15):
            rule = drawn_rule(source, THREE)
            kinds = drawn_range(source, THREE, 4)
            words = {course: word for course, word, _ in shown(rule, kinds)}
            lots = possible_winners(rule, kinds)
            for numbers in plain.small_numbers(len(kinds), 5)[1:]:
                papers = plain.papers_brought([kinds], numbers)[0]
                self.assertEqual(words[plain.course(rule, papers)], "roll")
                self.assertIn(plain.winners(rule, papers), lots)

    def test_ranges_of_fifteen_kinds(self):
        source = random.Random(153)
        self.held(drawn_rule(source, THREE), all_kinds(THREE))
        for seats in (1, 2, 3):
            rule = drawn_rule(source, FOUR).with_seats(seats)
            self.held(rule, tuple(sorted(source.sample(all_kinds(FOUR), 15))))


class RefusedTest(CoursesTestCase):
    def refused(self, error, field, value, rule, kinds):
        for call in ALL_THREE:
            with self.assertRaises(error) as caught:
                call(rule, kinds)
            self.assertIs(caught.exception.__class__, error)
            self.assertIs(getattr(caught.exception, field), value)

    def test_no_range(self):
        wrong = odd_values() + [
            (("b",), ("a",)), (("a",), ("a",)), (("a",), ("c",)), [("a",)], (["a"],), ("a", "b"), (("a",), ()),
            (("a", "a"),), (("a",), Stubborn()), nested(45), RULE, (RULE,), {("a",): 1}, "ab"]
        for kinds in wrong:
            self.refused(BadKinds, "value", kinds, RULE, kinds)

    def test_more_than_fifteen_kinds(self):
        rule = Rule(FOUR, 1, (1, 2), False, (0, 1), FOUR)
        for many in (16, 17, 40, 64):
            self.refused(TooMany, "most", 15, rule, all_kinds(FOUR)[:many])

    def test_what_is_no_range_comes_first(self):
        rule = Rule(FOUR, 1, (1, 2), False, (0, 1), FOUR)
        kinds = all_kinds(FOUR)
        for wrong in (kinds[::-1], kinds[:20] + kinds[:1], list(kinds), kinds + (("a",),), kinds[:30] + kinds[29:]):
            self.refused(BadKinds, "value", wrong, rule, wrong)

    def test_fifteen_kinds_are_let_by(self):
        rule = Rule(FOUR, 1, (1, 2), False, (0, 1), FOUR)
        for kinds in (all_kinds(FOUR)[:15], all_kinds(FOUR)[-15:]):
            self.assertEqual(len(shown(rule, kinds)), 64)
            self.assertNotEqual(possible_winners(rule, kinds), ())
            self.assertNotEqual(can_win(rule, kinds), ())


class ConventionsTest(CoursesTestCase):
    def test_by_parameter_names(self):
        for call in ALL_THREE:
            self.assertEqual(call(rule=EXAMPLE, kinds=CYCLE), call(EXAMPLE, CYCLE))

    def test_equal_calls_are_equal_and_nothing_is_changed(self):
        rule = Rule(THREE, 1, (1, 2), True, (0, 1), THREE)
        first = [call(rule, CYCLE) for call in ALL_THREE]
        shown(RULE, (("a",),))
        self.assertEqual([call(rule, CYCLE) for call in ALL_THREE[::-1]], first[::-1])
        self.assertEqual(rule, EXAMPLE)


if __name__ == "__main__":
    unittest.main()
