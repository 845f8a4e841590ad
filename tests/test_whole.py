"""[0] to [4] over the whole program: what holds of all modules together."""

import itertools
import operator
import unittest

from drawn import THREE, TWO
from handedvotes import (
    cells, counts, courses, errors, margins, papers, questions, rules, small, tally, texts)
from handedvotes.papers import all_kinds
from handedvotes.rolls import Roll
from handedvotes.rules import Rule
from handedvotes.tally import Tally

CYCLE = (("a", "c"), ("b", "a"), ("c", "b"))
ROLL_TEXT = "names a b c\n4 a>c\n3 b>a\n3 c>b"
RULE_TEXT = "names a b c\nseats 1\nquota 1/2\nover yes\nhand 0/1\norder a b c"
STAY = ("stay", ("c", "b"))
COURSE = (("out", "c"), ("in", "b"))


def some_rule():
    return Rule(THREE, 1, (1, 2), True, (0, 1), THREE)


def some_roll():
    return Roll(THREE, [(("a", "c"), 4), (("b", "a"), 3), (("c", "b"), 3)])


def some_tally():
    return Tally(some_rule(), some_roll())


def winners_of_the_tally(same):
    while same.step() is not None:
        pass
    return same.winners()


def all_calls():
    """Each function of the interface with good arguments by name, in the order of its parameters."""
    rule, roll = some_rule(), some_roll()
    rows = (((1, -1), True), ((-1, 1), False))
    never = ("never", (((0, 1), (1, 1)),))
    asked = {"rule": rule, "question": STAY, "kinds": CYCLE}
    counted = {"rule": rule, "roll": roll}
    return [
        (papers.need_names, {"thing": THREE}), (papers.is_paper, {"names": THREE, "thing": ("a", "c")}),
        (papers.all_kinds, {"names": THREE}), (papers.need_kinds, {"names": THREE, "thing": CYCLE}),
        (papers.raised, {"paper": ("a", "c"), "name": "c"}),
        (rules.units, {"rule": rule}), (rules.all_courses, {"rule": rule}),
        (rules.winners_of, {"rule": rule, "course": COURSE}),
        (counts.stages, counted), (counts.course, counted), (counts.winners, counted),
        (cells.cell_of, {"rule": rule, "course": COURSE, "kinds": CYCLE}),
        (cells.holds, {"rows": rows, "numbers": (2, -1)}), (cells.are_bars, {"rows": rows, "thing": never[1][0]}),
        (cells.decided, {"rows": rows}),
        (questions.calls, asked), (questions.systems, asked), (questions.answer, asked),
        (questions.check, {**asked, "thing": questions.answer(rule, STAY, CYCLE)}), (questions.is_never, asked),
        (courses.shown, {"rule": rule, "kinds": CYCLE}), (courses.possible_winners, {"rule": rule, "kinds": CYCLE}),
        (courses.can_win, {"rule": rule, "kinds": CYCLE}),
        (small.smallest, {**asked, "most": 8}),
        (margins.margin, {**counted, "kinds": CYCLE, "most": 3}),
        (margins.exchanges, {**counted, "kinds": CYCLE, "most": 3}),
        (margins.added, {**counted, "name": "a", "kinds": CYCLE, "most": 3}),
        (margins.missing, {**counted, "kinds": CYCLE, "many": 2}),
        (tally.tried, {"tally": some_tally(), "function": winners_of_the_tally}),
        (texts.roll_text, {"roll": roll}), (texts.read_roll, {"text": ROLL_TEXT}),
        (texts.rule_text, {"rule": rule}), (texts.read_rule, {"text": RULE_TEXT}),
    ]


class CallsTest(unittest.TestCase):
    def test_by_position_and_by_name(self):
        for function, named in all_calls():
            expected = function(*named.values())
            self.assertEqual(function(**named), expected, function.__name__)
            turned = dict(reversed(list(named.items())))
            self.assertEqual(function(**turned), expected, function.__name__)

    def test_equal_calls_return_equal_results_whatever_was_asked_in_between(self):
        first = [function(**named) for function, named in all_calls()]
        again = [function(**named) for function, named in all_calls()[::-1]]
        self.assertEqual(again[::-1], first)

    def test_nothing_that_is_passed_is_modified(self):
        for (function, named), (_, fresh) in zip(all_calls(), all_calls()):
            function(**named)
            self.assertEqual(named, fresh, function.__name__)

    def test_no_result_is_shared_and_can_be_changed(self):
        for function, named in all_calls():
            self.assertNotIsInstance(function(**named), (list, dict, set), function.__name__)

    def test_a_call_that_is_refused_has_no_effect(self):
        rule, roll, led = some_rule(), some_roll(), some_tally()
        led.step()
        refused = [
            lambda: small.smallest(rule, STAY, CYCLE, 0), lambda: margins.margin(rule, roll, CYCLE, 4),
            lambda: margins.added(rule, roll, "x", CYCLE, 1), lambda: questions.check(rule, STAY, CYCLE, None),
            lambda: cells.cell_of(rule, (), CYCLE), lambda: courses.shown(rule, ()), lambda: led.add("a"),
            lambda: led.undo(2), lambda: roll.without(("a",)), lambda: rule.with_seats(3),
            lambda: tally.tried(led, lambda same: same.undo(0)), lambda: texts.read_rule("x")]
        for call in refused:
            with self.assertRaises(errors.VoteError):
                call()
        self.assertEqual((rule, roll), (some_rule(), some_roll()))
        other = some_tally()
        other.step()
        self.assertEqual(led, other)


class TrueAndFalseTest(unittest.TestCase):
    """True and False are not integers, at any depth."""

    def refused(self, error, call, *told):
        with self.assertRaises(error):
            call(*told)

    def test_where_an_integer_is_wanted(self):
        rule, roll, led = some_rule(), some_roll(), some_tally()
        led.step()
        led.step()
        for wrong in (True, False):
            self.refused(errors.BadRoll, Roll, THREE, [(("a",), wrong)])
            self.refused(errors.BadNumber, roll.without, ("a", "c"), wrong)
            self.refused(errors.BadNumber, roll.exchanged, ("a", "c"), ("a",), wrong)
            self.refused(errors.BadRule, rule.with_seats, wrong)
            self.refused(errors.BadRule, rule.with_quota, (wrong, 2), True)
            self.refused(errors.BadRule, rule.with_hand, (wrong, 1))
            self.refused(errors.BadRule, rule.with_hand, (0, True))
            self.refused(errors.BadNumber, small.smallest, rule, STAY, CYCLE, wrong)
            self.refused(errors.BadNumber, margins.margin, rule, roll, CYCLE, wrong)
            self.refused(errors.BadNumber, margins.exchanges, rule, roll, CYCLE, wrong)
            self.refused(errors.BadNumber, margins.added, rule, roll, "a", CYCLE, wrong)
            self.refused(errors.BadNumber, margins.missing, rule, roll, CYCLE, wrong)
            self.refused(errors.BadNumber, led.add, ("a",), wrong)
            self.refused(errors.BadNumber, led.undo, wrong)
            self.refused(TypeError, operator.mul, roll, wrong)

    def test_in_bars(self):
        rows = (((1, -1), True), ((-1, 1), False))
        for bars in (((False, 1), (1, 1)), ((0, 1), (True, 1)), ((0, True), (1, 1)), ((0, 1), (1, True))):
            self.assertIs(cells.are_bars(rows, bars), False)
        self.assertIs(cells.are_bars(rows, ((0, 1), (1, 1))), True)

    def test_integers_are_not_true_or_false(self):
        for over in (0, 1):
            self.refused(errors.BadRule, some_rule().with_quota, (1, 2), over)

    def test_what_tells_whether_is_true_or_false_itself(self):
        rule = some_rule()
        for thing in (papers.is_paper(THREE, ("a",)), papers.is_paper(THREE, ()), cells.holds((((1,), True),), (0,)),
                      cells.are_bars((((1,), True),), ()), questions.is_never(rule, STAY, CYCLE),
                      some_tally().is_over(), some_roll() == some_roll(), rule == 1, some_tally() != some_tally()):
            self.assertIsInstance(thing, bool)


class OperatorsTest(unittest.TestCase):
    TWO_SIDED = [operator.add, operator.sub, operator.mul, operator.truediv, operator.floordiv, operator.mod,
                 operator.pow, operator.matmul, operator.and_, operator.or_, operator.xor, operator.lshift,
                 operator.rshift, operator.lt, operator.le, operator.gt, operator.ge]

    def test_between_a_roll_a_rule_and_a_tally(self):
        for use in self.TWO_SIDED:
            for make, other in itertools.product((some_roll, some_rule, some_tally), repeat=2):
                if use is operator.add and make is some_roll and other is some_roll:
                    continue
                with self.assertRaises(TypeError):
                    use(make(), other())

    def test_equal_is_the_opposite_of_unlike(self):
        things = [some_roll(), some_rule(), some_tally(), Tally(some_rule().with_seats(2), some_roll()),
                  some_roll() * 2, some_rule().with_seats(2), None, 0, (), "a", THREE]
        for (at, one), (place, other) in itertools.product(enumerate(things), repeat=2):
            self.assertIs(one == other, at == place)
            self.assertIs(one != other, at != place)

    def test_iterating_and_in(self):
        for make in (some_roll, some_rule, some_tally):
            for use in (iter, list, tuple, set, sorted):
                with self.assertRaises(TypeError):
                    use(make())
            with self.assertRaises(TypeError):
                [thing for thing in make()]
            for thing in (("a", "c"), "a", 0, None, make()):
                with self.assertRaises(TypeError):
                    thing in make()
                with self.assertRaises(TypeError):
                    thing not in make()


class BothWaysTest(unittest.TestCase):
    """What one module tells another one tells, too."""

    def test_missing_papers_and_names_that_can_win(self):
        rule, roll = some_rule(), some_roll()
        can = {name for many in range(4) for name in margins.missing(rule, roll, CYCLE, many)[0]}
        for name in THREE:
            self.assertEqual(margins.added(rule, roll, name, CYCLE, 3) is not None, name in can)

    def test_small_rolls_have_the_winners_that_rolls_can_have(self):
        rule = some_rule()
        for course, word, _ in courses.shown(rule, CYCLE):
            found = small.smallest(rule, ("course", course), CYCLE, 8)
            if word == "bars":
                self.assertIsNone(found)
            elif found is not None:
                self.assertEqual(counts.course(rule, found[0]), course)
                self.assertIn(counts.winners(rule, found[0]), courses.possible_winners(rule, CYCLE))

    def test_texts_of_what_was_told(self):
        rule = some_rule()
        for roll in questions.answer(rule, STAY, CYCLE)[2]:
            self.assertEqual(texts.read_roll(texts.roll_text(roll)), roll)
        led = Tally(texts.read_rule(texts.rule_text(rule)), texts.read_roll(texts.roll_text(some_roll())))
        self.assertEqual(led, some_tally())

    def test_a_tally_goes_the_course_of_its_roll(self):
        rule = Rule(TWO, 1, (1, 2), True, (0, 1), ("b", "a"))
        for kind, other in itertools.product(all_kinds(TWO), repeat=2):
            led = Tally(rule, Roll(TWO, [(kind, 2)]))
            led.add(other, 2)
            winners_of_the_tally(led)
            self.assertEqual(led.steps(), counts.course(rule, led.roll))
            self.assertEqual(led.winners(), counts.winners(rule, led.roll))

    def test_all_modules_have_what_the_calls_above_name(self):
        told = {(function.__module__.split(".")[1], function.__name__) for function, _ in all_calls()}
        self.assertEqual({module for module, _ in told}, {
            module.__name__.split(".")[1] for module in (
                papers, rules, counts, cells, questions, courses, small, margins, tally, texts)})


if __name__ == "__main__":
    unittest.main()
