"""[13] and [14] by margins.py: margin, exchanges, added and missing, held against plain searches."""

import random
import unittest

import plain
from drawn import FOUR, THREE, TWO, drawn_range, drawn_roll, drawn_rule
from handedvotes.counts import winners
from handedvotes.errors import BadKinds, BadNames, BadNumber, TooMany
from handedvotes.margins import added, exchanges, margin, missing
from handedvotes.papers import all_kinds
from handedvotes.rolls import Roll
from handedvotes.rules import Rule
from odd_values import Stubborn, nested, odd_numbers, odd_values

A, B, AB, BA = ("a",), ("b",), ("a", "b"), ("b", "a")
RULE = Rule(TWO, 1, (1, 2), False, (0, 1), TWO)
EXAMPLE = Rule(THREE, 1, (1, 2), True, (0, 1), THREE)
CYCLE = (("a", "c"), ("b", "a"), ("c", "b"))
ROLL = Roll(THREE, [(("a", "c"), 4), (("b", "a"), 3), (("c", "b"), 3)])
HUGE = 10 ** 999


def roll_of(*items, names=TWO):
    return Roll(names, items)


class MarginTestCase(unittest.TestCase):
    def held(self, rule, roll, kinds, most):
        """What margin and exchanges tell, held against the plain search."""
        expected = plain.margin(rule, roll.papers, kinds, most)
        self.assertEqual(margin(rule, roll, kinds, most), expected)
        told = exchanges(rule, roll, kinds, most)
        if expected is None:
            self.assertIsNone(told)
        else:
            self.assertEqual(sum(self.held_exchanges(rule, roll, kinds, told)), expected)
        return expected

    def held_exchanges(self, rule, roll, kinds, told):
        """The numbers of exchanges that lead to others; each is a pair of unlike papers, once."""
        self.assertIsInstance(told, tuple)
        for item in told:
            self.assertIsInstance(item, tuple)
            self.assertEqual(len(item), 3)
            self.assertIs(item[2].__class__, int)
            self.assertGreaterEqual(item[2], 1)
            self.assertNotEqual(item[0], item[1])
            self.assertIn(item[1], kinds)
        self.assertEqual(list(told), sorted(told))
        self.assertEqual(len({item[:2] for item in told}), len(told))
        going = [paper for paper, _, many in told for _ in range(many)]
        coming = [other for _, other, many in told for _ in range(many)]
        for paper in going:
            self.assertLessEqual(going.count(paper), dict(roll.papers).get(paper, 0))
        table = dict(roll.papers)
        for paper, change in [(paper, -1) for paper in going] + [(paper, 1) for paper in coming]:
            table[paper] = table.get(paper, 0) + change
        papers = tuple(sorted((paper, many) for paper, many in table.items() if many))
        self.assertNotEqual(plain.winners(rule, papers), plain.winners(rule, roll.papers))
        return [many for _, _, many in told]


class ByHandTest(MarginTestCase):
    def test_the_example(self):
        self.assertEqual(self.held(EXAMPLE, ROLL, CYCLE, 3), 1)
        self.assertIsNone(self.held(EXAMPLE, ROLL, CYCLE, 0))

    def test_none_to_three_and_not_enough(self):
        # At a tie a comes in.
        for ahead, expected in ((0, 1), (1, 1), (2, 2), (3, 2), (4, 3), (5, 3), (6, None), (7, None)):
            roll = roll_of((A, 10 + ahead), (B, 10))
            for most in range(4):
                told = self.held(RULE, roll, (A, B), most)
                self.assertEqual(told, expected if expected is not None and expected <= most else None)
            if expected is not None:
                self.assertEqual(exchanges(RULE, roll, (A, B), 3), ((A, B, expected),))

    def test_without_a_paper_that_helps(self):
        roll = roll_of((A, 1), (B, 1))
        self.assertIsNone(self.held(RULE, roll, (A,), 3))
        self.assertIsNone(self.held(RULE, roll, (A, AB), 3))
        self.assertEqual(self.held(RULE, roll, (BA,), 3), 1)
        self.assertEqual(exchanges(RULE, roll, (BA,), 3), ((A, BA, 1),))

    def test_no_more_of_a_kind_than_the_roll_has(self):
        roll = roll_of((A, 1), (AB, 2), (BA, 1))
        self.assertEqual(self.held(RULE, roll, (B,), 3), 2)
        roll = roll_of((A, 1), (AB, 1), (BA, 1))
        self.assertEqual(self.held(RULE, roll, (B,), 3), 1)
        roll = roll_of((("a",), 1), (("a", "b"), 1), (("a", "c"), 1), names=THREE)
        self.assertEqual(self.held(EXAMPLE, roll, (("b",), ("c", "b")), 3), 2)

    def test_fewer_papers_than_may_be_exchanged(self):
        self.assertEqual(self.held(RULE, roll_of((A, 1)), (B,), 3), 1)
        self.assertEqual(self.held(RULE, roll_of((A, 2)), (B,), 3), 2)
        self.assertIsNone(self.held(RULE, roll_of((A, 2)), (A,), 3))
        self.assertIsNone(self.held(RULE, roll_of((B, 1)), (B, BA), 3))

    def test_papers_of_the_roll_that_are_out_of_the_range(self):
        # They may go, but do not come.
        roll = roll_of((AB, 3), (BA, 2))
        self.assertEqual(exchanges(RULE, roll, (B,), 3), ((AB, B, 1),))
        self.assertIsNone(self.held(RULE, roll, (A,), 3))

    def test_several_unlike_exchanges(self):
        roll = roll_of((A, 1), (AB, 1), (BA, 1), (B, 1))
        self.assertEqual(exchanges(RULE, roll, (BA,), 1), ((A, BA, 1),))
        # One of each kind that begins with a, and no more than there are, has to go.
        roll = roll_of((A, 1), (AB, 1))
        self.assertEqual(self.held(RULE, roll, (B,), 3), 2)
        self.assertEqual(exchanges(RULE, roll, (B,), 3), ((A, B, 1), (AB, B, 1)))
        roll = roll_of((A, 2), (AB, 2))
        self.assertEqual([sum(many for _, _, many in exchanges(RULE, roll, kinds, 3)) for kinds in ((B,), (B, BA))],
                         [3, 3])

    def test_exchanges_ascend_whatever_the_papers_are_worth(self):
        # To the courses that are near the first and the last of these are alike, the other one is not.
        rule = Rule(FOUR, 2, (37, 91), True, (6, 99), FOUR)
        going = (("dee", "ann", "cy"), ("dee", "bob", "ann"), ("dee", "cy", "ann", "bob"))
        coming = ("ann", "bob", "dee", "cy")
        roll = Roll(FOUR, [(paper, 1) for paper in going])
        self.assertEqual(self.held(rule, roll, (coming,), 3), 3)
        self.assertEqual(exchanges(rule, roll, (coming,), 3), tuple([(paper, coming, 1) for paper in going]))

    def test_numbers_of_a_thousand_digits(self):
        self.assertIsNone(margin(RULE, roll_of((A, HUGE), (B, HUGE - 9)), (A, B), 3))
        for ahead, expected in ((0, 1), (1, 1), (2, 2), (5, 3), (6, None)):
            roll = roll_of((A, HUGE + ahead), (B, HUGE))
            self.assertEqual(margin(RULE, roll, (A, B), 3), expected)

    def test_added(self):
        for ahead, expected in ((-1, 0), (0, 1), (1, 2), (2, 3), (3, None)):
            roll = roll_of((A, 10 + ahead), (B, 10))
            for most in range(4):
                told = added(RULE, roll, "b", (A, B), most)
                self.assertEqual(told, expected if expected is not None and expected <= most else None)
            # Papers that begin with a are of no help.
            self.assertEqual(added(RULE, roll, "b", (A, AB), 3), 0 if expected == 0 else None)

    def test_added_to_a_name_that_wins_already(self):
        self.assertEqual(added(RULE, roll_of((A, 1)), "a", (B,), 0), 0)
        self.assertEqual(added(RULE, roll_of((A, 1)), "a", (B,), 3), 0)
        self.assertEqual(added(EXAMPLE, ROLL, "b", CYCLE, 3), 0)
        self.assertEqual(added(EXAMPLE, ROLL, "a", (("c", "b"),), 3), 1)
        self.assertEqual(added(EXAMPLE.with_seats(2), roll_of((A, 2), (B, 1), names=THREE), "b", (("c",),), 1), 0)

    def test_missing(self):
        roll = roll_of((A, 11), (B, 9))
        for many, can in ((0, ("a",)), (1, ("a",)), (2, ("a",)), (3, ("a", "b"))):
            self.assertEqual(missing(RULE, roll, (A, B), many), (can, ("a",) if many < 3 else ()))
        self.assertEqual(missing(RULE, roll, (A,), 3), (("a",), ("a",)))
        self.assertEqual(missing(RULE, roll, (B,), 3), (("b",), ("b",)))

    def test_missing_of_two_seats(self):
        rule = Rule(THREE, 2, (1, 3), False, (1, 1), THREE)
        roll = roll_of((A, 5), (B, 2), (("c",), 1), names=THREE)
        self.assertEqual(missing(rule, roll, (A, B, ("c",)), 1), (("a", "b"), ("a", "b")))
        self.assertEqual(missing(rule, roll, (A, B, ("c",)), 2), (("a", "b", "c"), ("a",)))

    def test_missing_are_just_so_many(self):
        # One paper more brings b in; of two more the other one has to be one of a.
        rule = EXAMPLE
        for kinds in (CYCLE, (("c", "b"),)):
            for many in range(4):
                self.assertEqual(missing(rule, ROLL, kinds, many), plain.missing(rule, ROLL.papers, kinds, many))
        self.assertEqual(missing(rule, ROLL, (("c", "b"),), 0), (("b",), ("b",)))
        self.assertEqual(missing(rule, ROLL, (("c", "b"),), 1), (("a",), ("a",)))


class DrawnTest(MarginTestCase):
    def test_exchanges(self):
        source = random.Random(90)
        found = {}
        for _ in range(300):
            names = source.choice([TWO, THREE, THREE, FOUR])
            rule = drawn_rule(source, names)
            roll = drawn_roll(source, names, drawn_range(source, names, 4), source.choice([2, 3, 6]))
            told = self.held(rule, roll, drawn_range(source, names, 3), source.choice([1, 2, 3, 3, 3]))
            found[told] = found.get(told, 0) + 1
        self.assertGreater(min([found[told] for told in (1, 2, 3, None)]), 5)

    def test_exchanges_of_many_kinds(self):
        source = random.Random(91)
        for _ in range(12):
            rule = drawn_rule(source, FOUR)
            base = source.choice([1, 4])
            some = source.sample(all_kinds(FOUR), 30)
            roll = Roll(FOUR, [(kind, source.randint(base, base + 2)) for kind in some])
            kinds = tuple(sorted(source.sample(all_kinds(FOUR), 15)))
            told = exchanges(rule, roll, kinds, 3)
            self.assertEqual(margin(rule, roll, kinds, 3), None if told is None else sum(
                self.held_exchanges(rule, roll, kinds, told)))
            # The plain search through all exchanges of one paper.
            one = plain.margin(rule, roll.papers, kinds, 1)
            self.assertEqual(margin(rule, roll, kinds, 1), one)

    def test_exchanges_that_are_told_can_be_made_one_by_one(self):
        source = random.Random(92)
        made = 0
        for _ in range(80):
            rule = drawn_rule(source, THREE)
            roll = drawn_roll(source, THREE, all_kinds(THREE), 2)
            told = exchanges(rule, roll, drawn_range(source, THREE, 6), 3)
            if told is not None:
                changed = roll
                for paper, other, many in told:
                    changed = changed.exchanged(paper, other, many)
                self.assertNotEqual(winners(rule, changed), winners(rule, roll))
                made += 1
        self.assertGreater(made, 30)

    def test_added_and_missing(self):
        source = random.Random(93)
        found = {}
        for _ in range(120):
            names = source.choice([TWO, THREE, FOUR])
            rule = drawn_rule(source, names)
            roll = drawn_roll(source, names, drawn_range(source, names, 5), source.choice([1, 2, 3]))
            kinds = drawn_range(source, names, 4)
            most = source.choice([0, 1, 2, 3, 3])
            for name in names:
                told = added(rule, roll, name, kinds, most)
                self.assertEqual(told, plain.added(rule, roll.papers, name, kinds, most))
                found[told] = found.get(told, 0) + 1
            self.assertEqual(missing(rule, roll, kinds, most), plain.missing(rule, roll.papers, kinds, most))
        self.assertGreater(min([found[told] for told in (0, 1, 2, 3, None)]), 3)

    def test_ranges_of_fifteen_kinds(self):
        source = random.Random(94)
        for names in (THREE, FOUR):
            rule = drawn_rule(source, names)
            roll = drawn_roll(source, names, all_kinds(names), 9)
            kinds = tuple(sorted(source.sample(all_kinds(names), 15)))
            self.assertEqual(missing(rule, roll, kinds, 2), plain.missing(rule, roll.papers, kinds, 2))
            can, sure = missing(rule, roll, kinds, 3)
            self.assertTrue(set(sure) <= set(can))
            for name in names:
                self.assertEqual(added(rule, roll, name, kinds, 2), plain.added(rule, roll.papers, name, kinds, 2))
                if added(rule, roll, name, kinds, 3) == 3:
                    self.assertIn(name, can)


class RefusedTest(MarginTestCase):
    def calls_with(self, rule, roll, kinds, most, name="a"):
        return [
            lambda: margin(rule, roll, kinds, most), lambda: exchanges(rule, roll, kinds, most),
            lambda: added(rule, roll, name, kinds, most), lambda: missing(rule, roll, kinds, most)]

    def refused(self, error, value, *told, name="a"):
        for call in self.calls_with(*told, name=name):
            self.refused_by(error, value, call)

    def refused_by(self, error, value, call):
        with self.assertRaises(error) as caught:
            call()
        self.assertIs(caught.exception.__class__, error)
        self.assertIs(caught.exception.most if error is TooMany else caught.exception.value, value)

    def test_names_of_the_roll_first(self):
        for other in (THREE, ("a", "c"), FOUR):
            roll = Roll(other, [(other[:1], 1)])
            for kinds, most, name in (((A,), 1, "a"), (None, 9, "x"), ((("c",),), None, None), (Stubborn(), True, 1)):
                self.refused(BadNames, other, RULE, roll, kinds, most, name=name)

    def test_ranges_then(self):
        roll = roll_of((A, 1))
        wrong = odd_values() + [(B, A), (A, A), (A, ("c",)), [A], (["a"],), "ab", (A, ()), (A, Stubborn()), RULE,
                                {A: 1}, nested(40), all_kinds(THREE)]
        for kinds in wrong:
            for most, name in ((1, "a"), (4, "x"), (None, None)):
                self.refused(BadKinds, kinds, RULE, roll, kinds, most, name=name)

    def test_more_than_fifteen_kinds_then(self):
        rule = Rule(FOUR, 1, (1, 2), False, (0, 1), FOUR)
        roll = Roll(FOUR, [(("ann",), 1)])
        for many in (16, 17, 64):
            for most, name in ((1, "ann"), (4, "a"), (None, None), (Stubborn(), Stubborn())):
                self.refused(TooMany, 15, rule, roll, all_kinds(FOUR)[:many], most, name=name)
        turned = all_kinds(FOUR)[::-1]
        self.refused(BadKinds, turned, rule, roll, turned, 1)

    def test_names_then(self):
        wrong = odd_values() + ["c", "A", "ab", "a ", ("a",), ["a"], b"a", {"a"}, RULE, Stubborn()]
        for name in wrong:
            for most in (0, 3, 4, None, True, Stubborn()):
                self.refused_by(BadNumber, name, lambda: added(RULE, roll_of((A, 1)), name, (A,), most))

    def test_numbers_at_last(self):
        # 0 is none of the wrong numbers here.
        wrong = [thing for thing in odd_numbers() if thing.__class__ is not int or thing < 0]
        wrong = wrong + [4, 5, -1, -HUGE, HUGE, True, False, "1", "3", (1,), [1], None, RULE, b"2"]
        for most in wrong:
            self.refused(BadNumber, most, RULE, roll_of((A, 1)), (A,), most)

    def test_bounds_are_let_by(self):
        rule = Rule(FOUR, 1, (1, 2), False, (0, 1), FOUR)
        roll = Roll(FOUR, [(("ann",), 9)])
        for most in range(4):
            for kinds in (all_kinds(FOUR)[:15], all_kinds(FOUR)[-15:], (("ann",),)):
                for call in self.calls_with(rule, roll, kinds, most, name="ann"):
                    call()


class ConventionsTest(MarginTestCase):
    def test_by_parameter_names(self):
        self.assertEqual(margin(rule=EXAMPLE, roll=ROLL, kinds=CYCLE, most=3), 1)
        self.assertEqual(exchanges(rule=EXAMPLE, roll=ROLL, kinds=CYCLE, most=3), exchanges(EXAMPLE, ROLL, CYCLE, 3))
        self.assertEqual(added(rule=EXAMPLE, roll=ROLL, name="a", kinds=CYCLE, most=3), 1)
        self.assertEqual(missing(rule=EXAMPLE, roll=ROLL, kinds=CYCLE, many=1), missing(EXAMPLE, ROLL, CYCLE, 1))

    def test_equal_calls_are_equal_and_nothing_is_changed(self):
        rule = Rule(THREE, 1, (1, 2), True, (0, 1), THREE)
        roll = Roll(THREE, ROLL.papers)
        asked = [lambda: margin(rule, roll, CYCLE, 3), lambda: exchanges(rule, roll, CYCLE, 3),
                 lambda: added(rule, roll, "a", CYCLE, 3), lambda: missing(rule, roll, CYCLE, 2)]
        first = [call() for call in asked]
        margin(RULE, roll_of((A, 1)), (B,), 2)
        self.assertEqual([call() for call in asked[::-1]], first[::-1])
        self.assertEqual((rule, roll), (EXAMPLE, ROLL))


if __name__ == "__main__":
    unittest.main()
