"""[13] and [14] by tally.py: Tally and its methods; [0], [2] and [4] as far as they speak of it; trials."""

import operator
import random
import unittest

import plain
from drawn import FOUR, THREE, TWO, drawn_roll, drawn_rule
from handedvotes.counts import stages, winners
from handedvotes.errors import BadNames, BadNumber, BadPaper
from handedvotes.papers import all_kinds
from handedvotes.rolls import Roll
from handedvotes.rules import Rule
from handedvotes.tally import Tally, tried
from odd_values import Stubborn, odd_numbers, odd_values

EXAMPLE = Rule(THREE, 1, (1, 2), True, (0, 1), THREE)
ITEMS = ((("a", "c"), 4), (("b", "a"), 3), (("c", "b"), 3))
ROLL = Roll(THREE, ITEMS)
A, B, CB = ("a",), ("b",), ("c", "b")
OUT_C, IN_B, OUT_B, IN_A = ("out", "c"), ("in", "b"), ("out", "b"), ("in", "a")
HUGE = 10 ** 999


class Told(Exception):
    """What a block raises."""


def some_tally():
    return Tally(EXAMPLE, ROLL)


def seen(tally):
    """All that can be asked of a tally."""
    return (tally.roll.names, tally.roll.papers, tally.steps(), len(tally), tally.is_over(), tally.piles(),
            tally.winners())


def undone(tally):
    """What can be seen of a tally behind each number of deeds that can be taken back; it stays."""
    found = [seen(tally)]
    for many in range(1, 100):
        try:
            with tally.trial():
                tally.undo(many)
                found.append(seen(tally))
        except BadNumber:
            return found
    raise AssertionError("no error came out of the trial")


class TallyTestCase(unittest.TestCase):
    def refused(self, error, value, tally, call, *told):
        ahead = undone(tally)
        with self.assertRaises(error) as caught:
            call(*told)
        self.assertIs(caught.exception.__class__, error)
        self.assertIs(caught.exception.value, value)
        self.assertEqual(undone(tally), ahead)


class StepTest(TallyTestCase):
    def test_the_example(self):
        tally = some_tally()
        self.assertEqual(seen(tally), (THREE, ITEMS, (), 0, False, (("a", 4), ("b", 3), ("c", 3)), ()))
        self.assertEqual(tally.step(), OUT_C)
        self.assertEqual(seen(tally), (THREE, ITEMS, (OUT_C,), 1, False, (("a", 4), ("b", 6)), ()))
        self.assertEqual(tally.step(), IN_B)
        self.assertEqual(seen(tally), (THREE, ITEMS, (OUT_C, IN_B), 2, True, (("a", 4),), ("b",)))

    def test_behind_the_end(self):
        tally = some_tally()
        tally.step()
        tally.step()
        ahead = undone(tally)
        for _ in range(3):
            self.assertIsNone(tally.step())
            self.assertEqual(undone(tally), ahead)
        self.assertEqual(len(ahead), 3)

    def test_winners_at_each_time(self):
        # The last two come in as the others are gone; so far only c has come in.
        rule = Rule(FOUR, 3, (1, 2), True, (1, 2), FOUR)
        tally = Tally(rule, Roll(FOUR, [(("cy", "bob"), 5), (("ann",), 1), (("dee", "ann"), 2)]))
        self.assertEqual(tally.winners(), ())
        self.assertEqual(tally.step(), ("in", "cy"))
        self.assertEqual((tally.winners(), tally.is_over()), (("cy",), False))
        self.assertEqual(tally.piles(), (("ann", 8), ("bob", 20), ("dee", 16)))
        self.assertEqual(tally.step(), ("out", "ann"))
        self.assertEqual((tally.winners(), tally.is_over()), (("bob", "cy", "dee"), True))
        # What stands with none any more is in no pile.
        self.assertEqual(tally.piles(), (("bob", 20), ("dee", 16)))

    def test_winners_are_a_lot_whatever_the_steps(self):
        rule = Rule(FOUR, 3, (1, 100), False, (1, 1), FOUR)
        tally = Tally(rule, Roll(FOUR, [(("dee", "ann", "cy"), 5)]))
        lots = []
        while tally.step() is not None:
            lots.append(tally.winners())
        self.assertEqual(lots, [("dee",), ("ann", "dee"), ("ann", "cy", "dee")])
        self.assertEqual(tally.piles(), (("bob", 0),))

    def test_piles_behind_the_end(self):
        tally = Tally(Rule(TWO, 1, (1, 2), False, (1, 3), TWO), Roll(TWO, [(("b", "a"), 2), (("a",), 1)]))
        self.assertEqual(tally.piles(), (("a", 3), ("b", 6)))
        self.assertEqual(tally.step(), ("in", "b"))
        self.assertEqual(tally.piles(), (("a", 5),))

    def test_drawn_counts(self):
        source = random.Random(130)
        for _ in range(150):
            names = source.choice([TWO, THREE, FOUR])
            rule = drawn_rule(source, names)
            roll = drawn_roll(source, names, all_kinds(names), source.choice([1, 3, 50, HUGE]))
            tally = Tally(rule, roll)
            found = []
            while not tally.is_over():
                piles, ahead = tally.piles(), tally.steps()
                self.assertEqual(len(tally), len(found))
                found.append((piles, tally.step()))
                self.assertEqual(tally.steps(), ahead + (found[-1][1],))
            self.assertEqual(tuple(found), plain.stages(rule, roll.papers))
            self.assertEqual(tuple(found), stages(rule, roll))
            self.assertIsNone(tally.step())
            self.assertEqual(tally.winners(), winners(rule, roll))
            self.assertEqual(dict(tally.piles()), plain.piles_behind(rule, tally.steps(), roll.papers))
            self.assertEqual((tally.roll, roll), (roll, tally.roll))


class DeedsTest(TallyTestCase):
    def test_add_begins_anew(self):
        tally = some_tally()
        tally.step()
        tally.step()
        self.assertIsNone(tally.add(CB))
        self.assertEqual(seen(tally), (
            THREE, ITEMS[:2] + ((CB, 4),), (), 0, False, (("a", 4), ("b", 3), ("c", 4)), ()))
        self.assertEqual([tally.step(), tally.step()], [OUT_B, IN_A])
        self.assertIsNone(tally.add(A, 3))
        self.assertEqual(tally.roll, ROLL + Roll(THREE, [(CB, 1), (A, 3)]))
        self.assertEqual(tally.steps(), ())

    def test_add_of_many(self):
        tally = some_tally()
        tally.add(B, HUGE)
        tally.add(B, 1)
        self.assertEqual(tally.roll[B], HUGE + 1)
        self.assertEqual(tally.step(), IN_B)

    def test_undo_takes_back_steps(self):
        tally = some_tally()
        ahead = seen(tally)
        tally.step()
        between = seen(tally)
        tally.step()
        self.assertIsNone(tally.undo())
        self.assertEqual(seen(tally), between)
        self.assertEqual(tally.step(), IN_B)
        self.assertIsNone(tally.undo(2))
        self.assertEqual(seen(tally), ahead)
        self.refused(BadNumber, 1, tally, tally.undo, 1)

    def test_undo_takes_back_papers_with_the_steps_ahead_of_them(self):
        tally = some_tally()
        tally.step()
        tally.step()
        ended = seen(tally)
        tally.add(CB, 2)
        added = seen(tally)
        tally.step()
        tally.undo()
        self.assertEqual(seen(tally), added)
        tally.undo()
        self.assertEqual(seen(tally), ended)
        self.assertIsNone(tally.step())
        tally.undo()
        self.assertEqual(tally.steps(), (OUT_C,))

    def test_undo_of_many_at_once(self):
        tally = some_tally()
        found = [seen(tally)]
        for deed in (tally.step, tally.step, lambda: tally.add(A, 2), lambda: tally.add(CB), tally.step,
                     lambda: tally.add(("b", "c")), tally.step, tally.step):
            deed()
            found.append(seen(tally))
        for many in range(1, 9):
            with tally.trial():
                tally.undo(many)
                self.assertEqual(seen(tally), found[8 - many])
        tally.undo(3)
        tally.undo(4)
        self.assertEqual(seen(tally), found[1])
        self.refused(BadNumber, 2, tally, tally.undo, 2)

    def test_a_step_behind_the_end_is_no_deed(self):
        tally = some_tally()
        for _ in range(5):
            tally.step()
        self.refused(BadNumber, 3, tally, tally.undo, 3)
        tally.undo(2)
        self.assertEqual(tally, some_tally())

    def test_a_long_tally(self):
        tally = some_tally()
        for _ in range(2000):
            tally.step()
            tally.add(A)
        self.assertEqual(tally.roll[A], 2000)
        with self.assertRaises(BadNumber):
            tally.undo(4001)
        tally.undo(1999)
        self.assertEqual((tally.roll[A], len(tally)), (1000, 1))
        tally.undo(2001)
        self.assertEqual(tally, some_tally())

    def test_what_was_handed_in_stays(self):
        rule = Rule(THREE, 1, (1, 2), True, (0, 1), THREE)
        roll = Roll(THREE, ITEMS)
        tally = Tally(rule, roll)
        tally.step()
        tally.add(A, 5)
        tally.step()
        self.assertEqual((rule, roll), (EXAMPLE, ROLL))

    def test_what_was_told_stays(self):
        tally = some_tally()
        tally.step()
        told = (tally.roll, tally.steps(), tally.piles(), tally.winners())
        tally.add(A, 5)
        tally.step()
        self.assertEqual(told, (ROLL, (OUT_C,), (("a", 4), ("b", 6)), ()))
        for thing in told[1:]:
            self.assertIsInstance(thing, tuple)

    def test_roll_is_a_property(self):
        self.assertIsInstance(vars(Tally)["roll"], property)
        self.assertIsInstance(some_tally().roll, Roll)


class RefusedTest(TallyTestCase):
    def tallies(self):
        """Tallies at unlike times, with unlike deeds behind them."""
        found = []
        for deeds in range(5):
            tally = some_tally()
            for deed in (tally.step, tally.step, lambda: tally.add(A), tally.step)[:deeds]:
                deed()
            found.append((tally, deeds))
        return found

    def test_names_of_the_roll(self):
        for names in (TWO, FOUR, ("a", "b", "d")):
            with self.assertRaises(BadNames) as caught:
                Tally(EXAMPLE, Roll(names, [(names[:1], 1)]))
            self.assertIs(caught.exception.value, names)

    def test_papers(self):
        for tally, _ in self.tallies():
            for paper in odd_values() + [("d",), ("a", "a"), ["a"], "a", ("a", "b", "c", "a"), ("a", None), ROLL,
                                         (A,), EXAMPLE, tally]:
                for many in (1, 0, None):
                    self.refused(BadPaper, paper, tally, tally.add, paper, many)

    def test_numbers_of_papers(self):
        for tally, _ in self.tallies():
            for many in odd_numbers() + [0, -1, -HUGE, True, False, "1", None, ROLL]:
                self.refused(BadNumber, many, tally, tally.add, A, many)

    def test_numbers_of_deeds(self):
        for tally, deeds in self.tallies():
            for many in odd_numbers() + [deeds + 1, deeds + 2, HUGE, 0, -1, -deeds, True, False, "1", None]:
                self.refused(BadNumber, many, tally, tally.undo, many)

    def test_the_number_that_is_left_out_is_1(self):
        tally = some_tally()
        with self.assertRaises(BadNumber) as caught:
            tally.undo()
        self.assertEqual(caught.exception.value, 1)

    def test_the_roll_cannot_be_assigned(self):
        with self.assertRaises(AttributeError):
            some_tally().roll = ROLL


class EqualTest(TallyTestCase):
    def alike(self, one, other, expected=True):
        self.assertIs(one == other, expected)
        self.assertIs(other == one, expected)
        self.assertIs(one != other, not expected)

    def test_whatever_can_be_taken_back(self):
        one, other = some_tally(), some_tally()
        self.alike(one, other)
        self.alike(one, one)
        one.step()
        self.alike(one, other, False)
        one.undo()
        self.alike(one, other)
        one.add(A)
        self.alike(one, other, False)
        # Another way to the same roll.
        self.alike(one, Tally(EXAMPLE, ROLL + Roll(THREE, [(A, 1)])))
        other.step()
        other.step()
        other.add(A)
        self.alike(one, other)
        one.step()
        self.alike(one, other, False)
        other.step()
        self.alike(one, other)
        self.assertNotEqual(len(undone(one)), len(undone(other)))

    def test_papers_in_another_order(self):
        one, other = some_tally(), some_tally()
        one.add(A)
        one.add(B, 2)
        other.add(B)
        other.add(A)
        other.add(B)
        self.alike(one, other)

    def test_unlike_rules(self):
        for rule in (EXAMPLE.with_seats(2), EXAMPLE.with_quota((1, 3), True), EXAMPLE.with_quota((1, 2), False),
                     EXAMPLE.with_hand((1, 1)), EXAMPLE.with_order(("b", "a", "c")), EXAMPLE.with_quota((2, 4), True)):
            self.alike(Tally(rule, ROLL), some_tally(), False)
        self.alike(Tally(Rule(THREE, 1, (1, 2), True, (0, 1), THREE), Roll(THREE, list(ITEMS))), some_tally())

    def test_unlike_rolls_with_the_same_steps(self):
        one, other = some_tally(), Tally(EXAMPLE, ROLL * 2)
        self.alike(one, other, False)
        one.step()
        other.step()
        self.assertEqual(one.steps(), other.steps())
        self.alike(one, other, False)

    def test_other_values(self):
        tally = some_tally()
        for other in [None, True, 0, 1, "", "tally", (), [], {}, (EXAMPLE, ROLL, ()), ROLL, EXAMPLE, Tally, object(),
                      tally.trial(), tally.steps(), tally.roll]:
            self.alike(tally, other, False)

    def test_operators_that_are_not_described(self):
        two = [operator.add, operator.sub, operator.mul, operator.truediv, operator.floordiv, operator.mod,
               operator.pow, operator.matmul, operator.and_, operator.or_, operator.xor, operator.lshift,
               operator.rshift, operator.lt, operator.le, operator.gt, operator.ge, divmod]
        tally = some_tally()
        for use in two:
            for other in (some_tally(), 1, True, None, (), [1], ROLL, EXAMPLE, {}):
                with self.assertRaises(TypeError):
                    use(tally, other)
                with self.assertRaises(TypeError):
                    use(other, tally)
            with self.assertRaises(TypeError):
                use(tally, "a")
        for use in (operator.neg, operator.pos, operator.invert, abs, int, iter, list, tuple, set, dict, sorted, sum,
                    reversed, next, enumerate, zip):
            with self.assertRaises(TypeError):
                use(tally)
        self.assertEqual(tally, some_tally())

    def test_not_iterated_over_nor_asked_by_in(self):
        tally = some_tally()
        tally.step()
        with self.assertRaises(TypeError):
            for _ in tally:
                pass
        with self.assertRaises(TypeError):
            _, = tally
        for thing in (OUT_C, 0, None, "a", tally, Stubborn()):
            with self.assertRaises(TypeError):
                thing in tally
            with self.assertRaises(TypeError):
                thing not in tally
        with self.assertRaises(TypeError):
            tally[0]


class TrialTest(TallyTestCase):
    def changed(self, tally):
        tally.add(A)
        tally.step()
        tally.step()

    def test_a_block_that_ends(self):
        tally = some_tally()
        tally.step()
        ahead = undone(tally)
        with tally.trial() as same:
            self.assertIs(same, tally)
            self.assertEqual(undone(same), ahead)
            self.changed(same)
            self.assertEqual((tally.roll[A], len(tally)), (1, 2))
        self.assertEqual(undone(tally), ahead)

    def test_a_block_that_does_nothing(self):
        tally = some_tally()
        with tally.trial():
            pass
        self.assertEqual(undone(tally), undone(some_tally()))

    def test_a_block_that_ends_by_a_refusal(self):
        tally = some_tally()
        tally.step()
        ahead = undone(tally)
        for error, call in ((BadNumber, lambda: tally.undo(99)), (BadPaper, lambda: tally.add("a")),
                            (BadNumber, lambda: tally.add(A, 0))):
            with self.assertRaises(error):
                with tally.trial():
                    self.changed(tally)
                    call()
            self.assertEqual(undone(tally), ahead)

    def test_other_errors_pass(self):
        tally = some_tally()
        tally.step()
        ahead = undone(tally)
        for error in (Told("x"), KeyError("a"), KeyboardInterrupt(), StopIteration(), GeneratorExit(), ValueError()):
            with self.assertRaises(error.__class__) as caught:
                with tally.trial() as same:
                    self.changed(same)
                    raise error
            self.assertIs(caught.exception, error)
            self.assertEqual(undone(tally), ahead)

    def test_blocks_that_are_left(self):
        tally = some_tally()

        def returned():
            with tally.trial() as same:
                self.changed(same)
                return len(same)

        self.assertEqual(returned(), 2)
        for _ in range(2):
            with tally.trial():
                self.changed(tally)
                break
        for _ in range(2):
            with tally.trial():
                self.changed(tally)
                continue
        self.assertEqual(undone(tally), undone(some_tally()))

    def test_trials_in_one_another(self):
        tally = some_tally()
        tally.step()
        outer = undone(tally)
        with tally.trial():
            tally.add(B)
            tally.step()
            inner = undone(tally)
            with tally.trial() as same:
                same.undo(2)
                same.add(A, 7)
                with self.assertRaises(Told):
                    with same.trial():
                        same.undo(2)
                        self.assertEqual(same, some_tally())
                        raise Told()
                self.assertEqual(same.roll[A], 7)
            self.assertEqual(undone(tally), inner)
            tally.step()
        self.assertEqual(undone(tally), outer)

    def test_two_trials_in_one_statement(self):
        one, other = some_tally(), Tally(EXAMPLE, ROLL * 2)
        with one.trial() as first, other.trial() as second, one.trial() as third:
            self.assertIs(first, third)
            self.changed(first)
            self.changed(second)
        self.assertEqual(undone(one), undone(some_tally()))
        self.assertEqual(undone(other), undone(Tally(EXAMPLE, ROLL * 2)))

    def test_what_was_ahead_of_the_block_can_be_taken_back_in_it(self):
        tally = some_tally()
        tally.step()
        tally.add(A, 2)
        tally.step()
        ahead = undone(tally)
        with tally.trial():
            tally.undo(3)
            self.assertEqual(tally, some_tally())
            self.refused(BadNumber, 1, tally, tally.undo, 1)
            tally.add(B, 9)
            tally.step()
        self.assertEqual(undone(tally), ahead)
        self.assertEqual(len(ahead), 4)
        tally.undo(3)
        self.assertEqual(tally, some_tally())

    def test_deeds_behind_a_trial(self):
        tally = some_tally()
        with tally.trial():
            self.changed(tally)
        tally.step()
        with tally.trial():
            tally.undo()
        tally.step()
        self.assertEqual(tally.steps(), (OUT_C, IN_B))
        tally.undo(2)
        self.assertEqual(tally, some_tally())

    def test_each_trial_is_for_one_statement(self):
        tally = some_tally()
        self.assertIsNot(tally.trial(), tally.trial())
        trial = tally.trial()
        with trial as same:
            same.step()
        self.assertEqual(len(tally), 0)


class TriedTest(TallyTestCase):
    def test_what_is_returned(self):
        tally = some_tally()
        tally.step()
        ahead = undone(tally)

        def led_on(same):
            self.assertIs(same, tally)
            same.add(CB)
            while same.step() is not None:
                pass
            return same.winners()

        self.assertEqual(tried(tally, led_on), ("a",))
        self.assertEqual(undone(tally), ahead)
        self.assertIsNone(tried(tally, lambda same: None))
        self.assertIs(tried(tally, lambda same: same), tally)
        self.assertEqual(tried(tally, len), 1)
        self.assertEqual(tried(tally, Tally.step), IN_B)
        self.assertEqual(undone(tally), ahead)

    def test_errors_pass(self):
        tally = some_tally()
        tally.step()
        ahead = undone(tally)
        error = Told()

        def raises(same):
            same.undo()
            same.add(A)
            raise error

        with self.assertRaises(Told) as caught:
            tried(tally, raises)
        self.assertIs(caught.exception, error)
        self.assertEqual(undone(tally), ahead)
        with self.assertRaises(BadNumber):
            tried(tally, lambda same: same.undo(2))
        self.assertEqual(undone(tally), ahead)

    def test_in_one_another(self):
        tally = some_tally()
        ahead = undone(tally)

        def deeper(same):
            same.add(A, 4)
            inner = tried(same, lambda again: (again.undo(), again.step())[1])
            return (inner, same.roll[A], same.step())

        self.assertEqual(tried(tally, deeper), (OUT_C, 4, IN_A))
        self.assertEqual(undone(tally), ahead)


class DrawnTest(TallyTestCase):
    """Deeds that are drawn, held against a list of rolls and steps."""

    def setUp(self):
        self.source = random.Random(131)

    def test_deeds(self):
        for _ in range(40):
            names = self.source.choice([TWO, THREE, FOUR])
            rule = drawn_rule(self.source, names)
            roll = drawn_roll(self.source, names, all_kinds(names)[:6], 4)
            tally = Tally(rule, roll)
            states = [(roll.papers, ())]
            self.led(tally, rule, states, 30, 0)

    def led(self, tally, rule, states, many, depth):
        for _ in range(many):
            deed = self.source.choice(["step", "step", "add", "undo", "trial", "wrong"])
            papers, steps = states[-1]
            if deed == "step":
                found = plain.stages(rule, papers)
                expected = found[len(steps)][1] if len(steps) < len(found) else None
                self.assertEqual(tally.step(), expected)
                if expected is not None:
                    states.append((papers, steps + (expected,)))
            elif deed == "add":
                paper, more = self.source.choice(all_kinds(rule.names)), self.source.randint(1, 3)
                tally.add(paper, more)
                states.append((plain.with_papers(papers, [paper] * more), ()))
            elif deed == "undo" and len(states) > 1:
                back = self.source.randint(1, len(states) - 1)
                tally.undo(back)
                del states[-back:]
            elif deed == "trial" and depth < 3:
                with tally.trial():
                    self.led(tally, rule, list(states), 6, depth + 1)
            elif deed == "wrong":
                with self.assertRaises(BadNumber):
                    tally.undo(len(states))
            self.held(tally, rule, states[-1])

    def held(self, tally, rule, state):
        papers, steps = state
        self.assertEqual((tally.roll.papers, tally.steps(), len(tally)), (papers, steps, len(steps)))
        over = steps == plain.course(rule, papers)
        self.assertIs(tally.is_over(), over)
        self.assertEqual(dict(tally.piles()), plain.piles_behind(rule, steps, papers))
        came = tuple(sorted(name for word, name in steps if word == "in"))
        self.assertEqual(tally.winners(), plain.winners(rule, papers) if over else came)
        again = Tally(rule, Roll(rule.names, papers))
        for _ in steps:
            again.step()
        self.assertTrue(tally == again)


class ConventionsTest(TallyTestCase):
    def test_by_parameter_names(self):
        tally = Tally(rule=EXAMPLE, roll=ROLL)
        tally.add(paper=A, many=2)
        tally.add(paper=A)
        tally.add(many=3, paper=B)
        self.assertEqual(tally.roll, ROLL + Roll(THREE, [(A, 3), (B, 3)]))
        tally.undo(many=2)
        self.assertEqual(tally.roll, ROLL + Roll(THREE, [(A, 2)]))
        self.assertEqual(tried(tally=tally, function=len), 0)

    def test_results_that_are_not_named_are_none(self):
        tally = some_tally()
        self.assertIsNone(tally.add(A))
        self.assertIsNone(tally.undo())

    def test_asking_changes_nothing(self):
        tally = some_tally()
        tally.step()
        ahead = undone(tally)
        for _ in range(3):
            seen(tally)
            tally.trial()
        self.assertEqual(undone(tally), ahead)


if __name__ == "__main__":
    unittest.main()
