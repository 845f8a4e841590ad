"""[18] by cells.py, with [0], [2], [3] and [4] as far as they speak of are_bars and decided."""

import itertools
import math
import random
import unittest

import plain
from handedvotes.cells import are_bars, decided, holds
from handedvotes.rolls import Roll
from handedvotes.rules import Rule
from handedvotes.tables import Table
from odd_values import Stubborn, nested, odd_values

HUGE = 10 ** 999
TWO = ("a", "b")
# Once the first row and twice the second one: (-1, 0); the third one has the weight 1 alone.
ROWS = (((1, -2), True), ((-1, 1), False), ((1, 1), False), ((-1, -1), False))


def drawn_system(source, unknowns, rows, most):
    """A system whose last row is strict."""
    found = [(tuple([source.randint(-most, most) for _ in range(unknowns)]), source.random() < 0.4)
             for _ in range(rows)]
    return tuple(found[:-1] + [(found[-1][0], True)])


class AreBarsTest(unittest.TestCase):
    def bars(self, thing, rows=ROWS):
        self.assertIs(are_bars(rows, thing), True, thing)

    def none(self, thing, rows=ROWS):
        self.assertIs(are_bars(rows, thing), False)

    def test_bars(self):
        for thing in (((0, 1), (1, 1)), ((0, 1), (1, 2)), ((0, 2), (1, 3)), ((0, 1), (3, 1)),
                      ((0, 1), (1, 1), (2, 1), (3, 1)), ((0, HUGE), (1, HUGE)),
                      ((0, 1), (1, 1), (3, 10 ** 2000))):
            self.bars(thing)

    def test_the_example(self):
        self.bars(((0, 1), (1, 1)), (((1, -1), True), ((-1, 1), False)))

    def test_a_sum_above_0(self):
        self.none(((0, 1),))
        self.none(((0, 2), (1, 1)))
        self.none(((0, 1), (1, 3)))
        self.none(((0, 1), (1, 1), (2, 1)))
        self.none(((0, 1), (1, 1)), (((1, 1, -5), True), ((-1, 0, -5), False)))

    def test_no_strict_row(self):
        self.none(((3, 1),))
        self.none(((1, 1), (3, 1)))
        self.none(())
        self.none(((1, 1), (3, 1)), tuple([(weights, False) for weights, _ in ROWS]))
        self.none((), ())

    def test_any_of_the_rows_can_be_the_strict_one(self):
        for at in range(3):
            rows = tuple([((-1,), place == at) for place in range(3)])
            for places in itertools.chain.from_iterable(
                    itertools.combinations(range(3), many) for many in range(4)):
                self.assertIs(are_bars(rows, tuple([(place, 1) for place in places])), at in places)

    def test_not_ascending(self):
        self.none(((1, 1), (0, 1)))
        self.none(((0, 1), (3, 1), (1, 1)))

    def test_a_number_twice(self):
        self.none(((0, 1), (0, 1), (1, 2)))
        self.none(((0, 1), (1, 1), (1, 1)))

    def test_numbers_out_of_the_rows(self):
        self.none(((0, 1), (1, 1), (4, 1)))
        self.none(((-1, 1), (0, 1)))
        self.none(((-4, 1), (-1, 1)))
        self.none(((0, 1), (1, 1), (HUGE, 1)))

    def test_weights_below_1(self):
        self.none(((0, 1), (1, 1), (3, 0)))
        self.none(((0, 0), (3, 1)))
        self.none(((0, 1), (1, 1), (2, -1)))
        self.none(((0, 1), (2, -1)))

    def test_true_and_false_are_no_integers(self):
        self.none(((0, True), (1, 1)))
        self.none(((0, 1), (1, True)))
        self.none(((0, 1), (True, 1)))
        self.none(((False, 1), (1, 1)))
        self.none(((False, True), (True, True)))

    def test_other_forms(self):
        for thing in ([(0, 1), (1, 1)], ([0, 1], [1, 1]), ((0, 1), [1, 1]), ((0, 1, 1), (1, 1)),
                      ((0,), (1, 1)), ((), (1, 1)), ((0, 1), (1, 1), ()), (0, 1, 1, 1), (0, 1),
                      {0: 1, 1: 1}, {(0, 1), (1, 1)}, "01", ("01", "11"), (("0", 1), (1, 1)),
                      ((0, "1"), (1, 1)), ((0, (1,)), (1, 1)), (((0, 1), (1, 1)),), ((0, None), (1, 1)),
                      ((None, 1), (1, 1)), (((0, 1),), ((1, 1),))):
            self.none(thing)

    def test_every_other_value_at_any_depth(self):
        rolls_and_rules = [Roll(TWO, [(("a",), 1)]), Rule(TWO, 1, (1, 2), True, (0, 1), TWO)]
        for thing in odd_values() + rolls_and_rules + [nested(49), [[]], [[[]]]]:
            self.none(thing)
            self.none((thing,))
            self.none(((0, 1), (1, 1), thing))
            self.none((thing, (0, 1), (1, 1)))
            self.none(((thing, thing),))
            if not (isinstance(thing, int) and thing is not True and thing is not False):
                self.none(((0, thing), (1, 1)))
                self.none(((thing, 1), (1, 1)))
                self.none(((0, 1), (1, thing)))

    def test_many_items(self):
        self.none(((0, 1),) * 5000)
        self.none(tuple([(at, 1) for at in range(5000)]))

    def test_stubborn_things(self):
        for thing in (Stubborn(), (Stubborn(),), ((Stubborn(), 1),), ((0, Stubborn()),),
                      ((0, 1), (1, 1), (3, Stubborn())), ((0, 1), (1, 1), (Stubborn(), 1))):
            self.none(thing)

    def test_large_weights(self):
        rows = (((HUGE, -1), True), ((-1, 0), False))
        self.bars(((0, 1), (1, HUGE)), rows)
        self.none(((0, 1), (1, HUGE - 1)), rows)

    def test_as_the_plain_words(self):
        source = random.Random(180)
        found = 0
        for _ in range(3000):
            rows = drawn_system(source, source.randint(1, 3), source.randint(1, 3), 1)
            places = sorted(source.sample(range(len(rows)), source.randint(1, len(rows))))
            thing = tuple([(at, source.randint(1, 2)) for at in places])
            self.assertIs(are_bars(rows, thing), plain.are_bars(rows, thing))
            found += are_bars(rows, thing)
        self.assertGreater(found, 100)


class DecidedTest(unittest.TestCase):
    def decides(self, rows, word=None):
        """Decides and checks by the plain words what is told."""
        told = decided(rows)
        self.assertIsInstance(told, tuple)
        self.assertEqual(len(told), 2)
        self.assertIsInstance(told[1], tuple)
        if word is not None:
            self.assertEqual(told[0], word)
        if told[0] == "solution":
            self.assertEqual(len(told[1]), len(rows[0][0]))
            for number in told[1]:
                self.assertIs(number.__class__, int)
                self.assertGreaterEqual(number, 0)
            self.assertTrue(all([plain.row_holds(row, told[1]) for row in rows]))
            self.assertIs(holds(rows, told[1]), True)
        else:
            self.assertEqual(told[0], "bars")
            self.assertTrue(plain.are_bars(rows, told[1]))
            self.assertIs(are_bars(rows, told[1]), True)
        # Not promised, but nobody wants to add up larger numbers than needed.
        numbers = told[1] if told[0] == "solution" else [weight for _, weight in told[1]]
        self.assertEqual(math.gcd(*numbers), 1)
        return told

    def test_the_example(self):
        self.assertEqual(decided((((1, -1), True), ((-1, 1), False))), ("bars", ((0, 1), (1, 1))))

    def test_a_solution(self):
        self.decides((((1, -1), True), ((-1, 2), False)), "solution")
        self.decides((((1, -1), False), ((-1, 1), False), ((1, 1), True)), "solution")
        self.decides((((1, -2, 0), True), ((-1, 3, 0), True), ((0, 1, -5), True), ((0, 0, 1), True)), "solution")

    def test_a_cone_of_one_ray(self):
        # Only multiples of (4, 6, 9) hold.
        rows = (((3, -2, 0), False), ((-3, 2, 0), False), ((0, 3, -2), False), ((0, -3, 2), False),
                ((1, 0, 0), True))
        told = self.decides(rows, "solution")[1]
        self.assertEqual((told[0] * 6, told[1] * 9), (told[1] * 4, told[2] * 6))

    def test_bars(self):
        self.decides((((1, -1), True), ((-1, 1), True)), "bars")
        self.decides((((-1, -1), False), ((1, 0), True)), "bars")
        self.decides((((1, -1, 0), False), ((0, 1, -1), False), ((-1, 0, 1), True)), "bars")
        self.decides((((3, -2), True), ((-2, 1), True)), "bars")

    def test_a_row_that_bars_alone(self):
        for at in range(3):
            rows = [((1, 2), False), ((2, 1), False), ((1, 1), False)]
            rows[at] = ((-1, 0), True)
            self.decides(tuple(rows), "bars")

    def test_one_unknown(self):
        for weights in itertools.product(range(-2, 3), repeat=2):
            for strict in ((True, False), (False, True), (True, True)):
                rows = tuple([((weight,), one) for weight, one in zip(weights, strict)])
                has = all([plain.row_holds(row, (1,)) for row in rows])
                self.decides(rows, "solution" if has else "bars")

    def test_one_row(self):
        for weights in itertools.product((-1, 0, 2), repeat=3):
            self.decides(((weights, True),), "solution" if 2 in weights else "bars")

    def test_rows_of_zeros(self):
        self.decides((((0, 0), True),), "bars")
        self.decides((((0, 0), False), ((1, -1), True), ((0, 0), False)), "solution")
        self.decides((((0, 0), False), ((-1, -1), True)), "bars")
        self.decides((((0, 0), True), ((1, 1), True)), "bars")
        self.decides((((0,), False), ((0,), False), ((0,), True)), "bars")

    def test_columns_of_zeros(self):
        self.decides((((0, 1, 0), True), ((0, -1, 0), False)), "bars")
        self.decides((((0, 1, 0), True), ((0, -1, 1), False)), "solution")

    def test_no_unknown_at_all(self):
        self.decides((((), False), ((), True)), "bars")

    def test_equal_rows_and_columns(self):
        self.decides((((1, 1, -1), True),) * 4 + (((-1, -1, 1), False),) * 3, "bars")
        self.decides((((1, 1, -1), True),) * 4 + (((-1, -1, 2), False),) * 3, "solution")

    def test_large_weights(self):
        self.decides((((HUGE, -1), True), ((-HUGE, 2), False)), "solution")
        self.decides((((HUGE, -1), True), ((-HUGE, 1), False)), "bars")
        source = random.Random(181)
        for _ in range(20):
            self.decides(drawn_system(source, 4, 4, HUGE))

    def test_fractions_that_lie_close_together(self):
        # The first unknown over the second is to be above low / base and below top / floor.
        for low, base in itertools.product((HUGE - 1, HUGE, HUGE + 1), repeat=2):
            for top, floor in itertools.product((HUGE - 1, HUGE, HUGE + 1), repeat=2):
                between = top * base - low * floor
                rows = ((base, -low), (-floor, top))
                self.decides(tuple([(row, True) for row in rows]), "solution" if between > 0 else "bars")
                self.decides(tuple([(row, False) for row in rows]) + (((1, 1), True),),
                             "solution" if between >= 0 else "bars")

    def test_all_small_systems(self):
        rows = [(weights, strict) for weights in itertools.product((-1, 0, 1), repeat=2)
                for strict in (True, False)]
        for system in itertools.product(rows, repeat=2):
            if any([strict for _, strict in system]):
                has = any([all([plain.row_holds(row, numbers) for row in system])
                           for numbers in itertools.product(range(3), repeat=2)])
                self.decides(system, "solution" if has else "bars")

    def test_drawn_systems(self):
        source = random.Random(182)
        words = {"solution": 0, "bars": 0}
        for _ in range(2500):
            rows = drawn_system(source, source.randint(1, 6), source.randint(1, 7), source.choice([1, 2, 9]))
            words[self.decides(rows)[0]] += 1
        self.assertGreater(min(words.values()), 300)

    def test_systems_with_many_ties(self):
        # Small weights, and rows that stand there twice and turned round: so turns are in vain.
        source = random.Random(183)
        for _ in range(60):
            rows = drawn_system(source, 8, 7, 1)
            turned = tuple([(tuple([-weight for weight in weights]), False) for weights, _ in rows])
            self.decides(rows[:3] + turned[:3] + rows)
            self.decides(turned + (((1,) * 8, True),))

    def test_larger_systems(self):
        source = random.Random(184)
        for _ in range(3):
            self.decides(drawn_system(source, 40, 40, 9))
            self.decides(drawn_system(source, 15, 60, 9))
            self.decides(drawn_system(source, 90, 20, 9))


class TurnsTest(unittest.TestCase):
    def test_the_turns_that_cannot_go_round_decide_alike(self):
        # What else only comes in behind many turns, from the first one on.
        source = random.Random(185)
        for _ in range(400):
            unknowns = source.randint(1, 6)
            rows = drawn_system(source, unknowns, source.randint(1, 7), source.choice([1, 2, 9]))
            table = Table(unknowns, rows)
            table.turns_left = 0
            place = table.settle()
            if place is None:
                self.assertTrue(all([plain.row_holds(row, table.solution()) for row in rows]))
                self.assertGreaterEqual(min(table.solution()), 0)
            else:
                weights = table.bars(place)
                bars = tuple([(at, weight) for at, weight in enumerate(weights) if weight != 0])
                self.assertTrue(plain.are_bars(rows, bars))
            self.assertEqual(place is None, decided(rows)[0] == "solution")


class ConventionsTest(unittest.TestCase):
    def test_by_parameter_names(self):
        self.assertIs(are_bars(rows=ROWS, thing=((0, 1), (1, 1))), True)
        self.assertEqual(decided(rows=ROWS), decided(ROWS))

    def test_equal_calls_are_equal(self):
        source = random.Random(186)
        systems = [drawn_system(source, 4, 5, 3) for _ in range(30)]
        first = [decided(rows) for rows in systems]
        self.assertEqual([decided(rows) for rows in systems[::-1]], first[::-1])

    def test_what_is_passed_is_not_changed(self):
        thing = [(0, 1), [1, 1]]
        self.assertIs(are_bars(ROWS, thing), False)
        self.assertEqual(thing, [(0, 1), [1, 1]])


if __name__ == "__main__":
    unittest.main()
