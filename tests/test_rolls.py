"""[11] by rolls.py, with [0], [2], [3] and [4] as far as they speak of rolls."""

import itertools
import operator
import unittest

from handedvotes.errors import BadNames, BadNumber, BadPaper, BadRoll
from handedvotes.papers import all_kinds
from handedvotes.rolls import Roll
from handedvotes.rules import Rule
from odd_values import Stubborn, odd_numbers, odd_values

NAMES = ("a", "b", "c")
A, AC, BA, CB = ("a",), ("a", "c"), ("b", "a"), ("c", "b")
ITEMS = ((AC, 4), (BA, 3), (CB, 3))
HUGE = 10 ** 999


def roll_of(*items):
    return Roll(NAMES, items)


def some_roll():
    return Roll(NAMES, ITEMS)


def rule():
    return Rule(NAMES, 1, (1, 2), True, (0, 1), NAMES)


def no_papers():
    """Values that are no papers on NAMES."""
    return odd_values() + [("d",), ("a", "d"), ("a", "b", "c", "a"), ["a"], "a", some_roll(),
                           rule(), (("a",),), ("a", None), AC + BA]


class RollTestCase(unittest.TestCase):
    def refused(self, error, field, value, call, *told, **named):
        with self.assertRaises(error) as caught:
            call(*told, **named)
        self.assertIs(caught.exception.__class__, error)
        self.assertIs(getattr(caught.exception, field), value)


class MakingTest(RollTestCase):
    def test_fields(self):
        roll = some_roll()
        self.assertEqual(roll.names, NAMES)
        self.assertEqual(roll.papers, ITEMS)
        self.assertIsInstance(roll.papers, tuple)

    def test_lists_and_tuples_in_any_order(self):
        for items in itertools.permutations(ITEMS):
            for papers in (items, list(items)):
                roll = Roll(NAMES, papers)
                self.assertEqual(roll.papers, ITEMS)
                self.assertEqual(roll, some_roll())

    def test_ascending_by_the_papers(self):
        roll = roll_of((("b",), 1), (("a", "b"), 9), (("a",), 5), (("b", "a"), 2))
        self.assertEqual(roll.papers, ((("a",), 5), (("a", "b"), 9), (("b",), 1), (("b", "a"), 2)))

    def test_one_paper_and_all_kinds(self):
        self.assertEqual(roll_of((A, 1)).papers, ((A, 1),))
        four = ("a", "b", "c", "d")
        items = tuple([(kind, HUGE) for kind in all_kinds(four)])
        self.assertEqual(Roll(four, list(reversed(items))).papers, items)

    def test_by_parameter_names(self):
        self.assertEqual(Roll(names=NAMES, papers=ITEMS), some_roll())

    def test_names_first(self):
        for names in odd_values() + [("b", "a"), ["a", "b"], ("a",)]:
            for papers in (ITEMS, (), None, [None]):
                self.refused(BadNames, "value", names, Roll, names, papers)

    def test_no_list_or_tuple(self):
        for papers in [None, True, 1, "a", b"a", {}, dict(ITEMS), set(), set(ITEMS), iter(ITEMS),
                       (item for item in ITEMS), Stubborn(), object(), some_roll(), rule(), len]:
            self.refused(BadRoll, "place", None, Roll, NAMES, papers)

    def test_no_item(self):
        self.refused(BadRoll, "place", None, Roll, NAMES, ())
        self.refused(BadRoll, "place", None, Roll, NAMES, [])

    def test_items_that_are_no_pairs(self):
        for item in odd_values() + [(A,), (A, 1, 1), [A, 1], A, {A: 1}, some_roll(), (A, (1,))]:
            self.refused(BadRoll, "place", 0, Roll, NAMES, [item])
            self.refused(BadRoll, "place", 2, Roll, NAMES, ((AC, 1), (BA, 1), item, (CB, 1)))

    def test_items_without_a_paper(self):
        for paper in no_papers():
            self.refused(BadRoll, "place", 0, Roll, NAMES, [(paper, 1)])
            self.refused(BadRoll, "place", 1, Roll, NAMES, [(A, 1), (paper, 1)])

    def test_items_without_a_number(self):
        for number in odd_numbers() + [0, -1, -HUGE, True, False, some_roll()]:
            self.refused(BadRoll, "place", 0, Roll, NAMES, [(A, number)])
            self.refused(BadRoll, "place", 1, Roll, NAMES, ((AC, 1), (A, number)))

    def test_a_paper_twice(self):
        self.refused(BadRoll, "place", 1, Roll, NAMES, [(A, 1), (A, 1)])
        self.refused(BadRoll, "place", 2, Roll, NAMES, ((A, 1), (BA, 1), (A, 2), (BA, 2)))

    def test_the_first_wrong_item_is_told(self):
        self.refused(BadRoll, "place", 1, Roll, NAMES, [(A, 1), (A, 0), None])
        self.refused(BadRoll, "place", 1, Roll, NAMES, [(A, 1), None, (A, 1)])
        self.refused(BadRoll, "place", 2, Roll, NAMES, [(A, 1), (BA, 1), (A, 1), (BA, 0)])

    def test_the_number_told_is_an_integer(self):
        with self.assertRaises(BadRoll) as caught:
            Roll(NAMES, [(A, 1), None])
        self.assertIs(type(caught.exception.place), int)

    def test_the_list_that_was_passed_changed_afterwards(self):
        papers = list(ITEMS)
        roll = Roll(NAMES, papers)
        papers.append((A, 1))
        papers[0] = (AC, 9)
        self.assertEqual(roll.papers, ITEMS)
        self.assertEqual(roll[AC], 4)
        self.assertEqual(roll[A], 0)
        self.assertEqual(roll.total(), 10)

    def test_the_list_that_was_passed_is_not_changed(self):
        papers = list(reversed(ITEMS))
        Roll(NAMES, papers)
        self.assertEqual(papers, list(reversed(ITEMS)))


class AskingTest(RollTestCase):
    def test_item(self):
        roll = some_roll()
        numbers = dict(ITEMS)
        for kind in all_kinds(NAMES):
            self.assertEqual(roll[kind], numbers.get(kind, 0))
        self.assertEqual(roll_of((A, HUGE))[A], HUGE)

    def test_item_of_no_paper(self):
        roll = some_roll()
        for paper in no_papers():
            self.refused(BadPaper, "value", paper, operator.getitem, roll, paper)

    def test_no_item_is_assigned_or_deleted(self):
        roll = some_roll()
        with self.assertRaises(TypeError):
            roll[AC] = 5
        with self.assertRaises(TypeError):
            del roll[AC]
        self.assertEqual(roll, some_roll())

    def test_len_tells_kinds_and_total_tells_papers(self):
        self.assertEqual((len(some_roll()), some_roll().total()), (3, 10))
        self.assertEqual((len(roll_of((A, 7))), roll_of((A, 7)).total()), (1, 7))
        self.assertEqual(roll_of((A, HUGE), (AC, HUGE)).total(), 2 * HUGE)

    def test_equal(self):
        self.assertIs(some_roll() == Roll(NAMES, list(reversed(ITEMS))), True)
        self.assertIs(some_roll() != Roll(NAMES, list(reversed(ITEMS))), False)

    def test_unlike_in_one_field(self):
        unlike = [Roll(("a", "b", "c", "d"), ITEMS), roll_of(*ITEMS[:2]), roll_of(*ITEMS, (A, 1)),
                  roll_of((AC, 5), (BA, 3), (CB, 3)), roll_of((A, 4), (BA, 3), (CB, 3))]
        for other in unlike:
            self.assertIs(some_roll() == other, False)
            self.assertIs(some_roll() != other, True)

    def test_unlike_other_values(self):
        for other in [None, True, 1, "a", ITEMS, (NAMES, ITEMS), list(ITEMS), dict(ITEMS), rule(),
                      object(), Roll]:
            self.assertIs(some_roll() == other, False)
            self.assertIs(some_roll() != other, True)
            self.assertIs(other == some_roll(), False)
            self.assertIs(other != some_roll(), True)

    def test_not_iterated_over(self):
        roll = some_roll()
        for use in (iter, list, tuple, set, dict, sorted, sum, enumerate, zip):
            with self.assertRaises(TypeError):
                use(roll)
        with self.assertRaises(TypeError):
            for _ in roll:
                pass
        with self.assertRaises(TypeError):
            _, _, _ = roll

    def test_not_asked_by_in(self):
        for thing in (AC, ("b",), (AC, 4), 4, None, "a"):
            with self.assertRaises(TypeError):
                thing in some_roll()
            with self.assertRaises(TypeError):
                thing not in some_roll()


class AddingTest(RollTestCase):
    def test_both_together(self):
        both = some_roll() + roll_of((A, 2), (BA, 5))
        self.assertEqual(both, roll_of((A, 2), (AC, 4), (BA, 8), (CB, 3)))
        self.assertEqual(both, roll_of((A, 2), (BA, 5)) + some_roll())
        self.assertIsInstance(both, Roll)

    def test_with_itself(self):
        roll = some_roll()
        self.assertEqual(roll + roll, roll * 2)
        self.assertEqual(roll, some_roll())

    def test_operands_stay(self):
        one, other = some_roll(), roll_of((A, 2))
        kept = one
        one += other
        self.assertEqual((kept, other), (some_roll(), roll_of((A, 2))))
        self.assertEqual(one, some_roll() + roll_of((A, 2)))

    def test_unlike_names(self):
        for names in [("a", "b", "c", "d"), ("b", "c", "d")]:
            other = Roll(names, [(("c",), 1)])
            self.refused(BadNames, "value", names, operator.add, some_roll(), other)
            self.refused(BadNames, "value", NAMES, operator.add, other, some_roll())

    def test_other_values(self):
        for other in [None, 0, 1, True, "a", (), ITEMS, list(ITEMS), dict(ITEMS), rule(), object()]:
            with self.assertRaises(TypeError):
                some_roll() + other
            with self.assertRaises(TypeError):
                other + some_roll()


class TimesTest(RollTestCase):
    def test_so_many_times(self):
        self.assertEqual(some_roll() * 3, roll_of((AC, 12), (BA, 9), (CB, 9)))
        self.assertEqual(some_roll() * 1, some_roll())
        self.assertEqual((roll_of((A, HUGE)) * HUGE)[A], HUGE * HUGE)

    def test_roll_stays(self):
        roll = some_roll()
        kept = roll
        roll *= 2
        self.assertEqual(kept, some_roll())
        self.assertEqual(roll.total(), 20)

    def test_below_one(self):
        for number in (0, -1, -HUGE):
            self.refused(BadNumber, "value", number, operator.mul, some_roll(), number)

    def test_other_values(self):
        for other in [None, True, False, "a", "1", (), (1,), [1], {}, some_roll(), rule(), object()]:
            with self.assertRaises(TypeError):
                some_roll() * other

    def test_number_on_the_right(self):
        for number in (0, 1, 2, True, "a", [1]):
            with self.assertRaises(TypeError):
                number * some_roll()

    def test_operators_that_are_not_described(self):
        operators = [operator.sub, operator.truediv, operator.floordiv, operator.mod, operator.pow,
                     operator.matmul, operator.and_, operator.or_, operator.xor, operator.lshift,
                     operator.rshift, operator.lt, operator.le, operator.gt, operator.ge]
        for use in operators:
            for other in (some_roll(), 1, None, ITEMS, rule()):
                with self.assertRaises(TypeError):
                    use(some_roll(), other)
                with self.assertRaises(TypeError):
                    use(other, some_roll())
        for use in (operator.neg, operator.pos, operator.invert, abs):
            with self.assertRaises(TypeError):
                use(some_roll())


class WithoutTest(RollTestCase):
    def test_less(self):
        roll = some_roll()
        self.assertEqual(roll.without(AC), roll_of((AC, 3), (BA, 3), (CB, 3)))
        self.assertEqual(roll.without(AC, 3), roll_of((AC, 1), (BA, 3), (CB, 3)))
        self.assertEqual(roll.without(AC, 4), roll_of((BA, 3), (CB, 3)))
        self.assertEqual(roll, some_roll())

    def test_by_parameter_names(self):
        self.assertEqual(some_roll().without(paper=AC, many=2), some_roll().without(AC, 2))
        self.assertEqual(some_roll().without(paper=AC), some_roll().without(AC, 1))

    def test_paper_first(self):
        for paper in no_papers():
            for many in (1, 0, None):
                self.refused(BadPaper, "value", paper, some_roll().without, paper, many)

    def test_numbers_out_of_bounds(self):
        for many in odd_numbers() + [5, HUGE, 0, -1, True, False, "1", None]:
            self.refused(BadNumber, "value", many, some_roll().without, AC, many)

    def test_a_kind_that_is_not_there(self):
        self.refused(BadNumber, "value", 1, some_roll().without, A)
        self.refused(BadNumber, "value", 0, some_roll().without, A, 0)

    def test_no_paper_would_be_left(self):
        self.refused(BadNumber, "value", 1, roll_of((A, 1)).without, A)
        self.refused(BadNumber, "value", 3, roll_of((A, 3)).without, A, 3)
        self.assertEqual(roll_of((A, 3)).without(A, 2), roll_of((A, 1)))
        self.assertEqual(roll_of((A, 3), (BA, 1)).without(A, 3), roll_of((BA, 1)))


class ExchangedTest(RollTestCase):
    def test_for_another(self):
        roll = some_roll()
        self.assertEqual(roll.exchanged(AC, BA), roll_of((AC, 3), (BA, 4), (CB, 3)))
        self.assertEqual(roll.exchanged(AC, A, 2), roll_of((A, 2), (AC, 2), (BA, 3), (CB, 3)))
        self.assertEqual(roll.exchanged(AC, CB, 4), roll_of((BA, 3), (CB, 7)))
        self.assertEqual(roll, some_roll())

    def test_for_the_same(self):
        for many in (1, 2, 4):
            self.assertEqual(some_roll().exchanged(AC, AC, many), some_roll())
        self.refused(BadNumber, "value", 5, some_roll().exchanged, AC, AC, 5)

    def test_all_of_the_only_kind(self):
        self.assertEqual(roll_of((A, 3)).exchanged(A, BA, 3), roll_of((BA, 3)))

    def test_by_parameter_names(self):
        expected = some_roll().exchanged(AC, BA, 2)
        self.assertEqual(some_roll().exchanged(paper=AC, other=BA, many=2), expected)
        self.assertEqual(some_roll().exchanged(other=BA, paper=AC), some_roll().exchanged(AC, BA))

    def test_paper_first_then_the_other(self):
        roll = some_roll()
        for wrong in no_papers():
            self.refused(BadPaper, "value", wrong, roll.exchanged, wrong, A)
            self.refused(BadPaper, "value", wrong, roll.exchanged, wrong, ("x",), 0)
            self.refused(BadPaper, "value", wrong, roll.exchanged, AC, wrong)
            self.refused(BadPaper, "value", wrong, roll.exchanged, AC, wrong, 0)
            self.refused(BadPaper, "value", wrong, roll.exchanged, A, wrong, None)

    def test_numbers_out_of_bounds(self):
        for many in odd_numbers() + [5, HUGE, 0, -1, True, False, "1", None]:
            self.refused(BadNumber, "value", many, some_roll().exchanged, AC, A, many)

    def test_a_kind_that_is_not_there(self):
        self.refused(BadNumber, "value", 1, some_roll().exchanged, A, AC)


if __name__ == "__main__":
    unittest.main()
