"""[10], and the move of [19], by papers.py."""

import itertools
import unittest

from handedvotes.errors import BadKinds, BadNames
from handedvotes.papers import MOST_NAMES, all_kinds, is_paper, need_kinds, need_names, raised
from handedvotes.rolls import Roll
from handedvotes.rules import Rule
from odd_values import Stubborn, odd_values

TWO = ("a", "b")
THREE = ("a", "b", "c")
FOUR = ("ann", "bob", "cy", "dee")


def rolls_and_rules():
    return [Roll(TWO, [(("a",), 1)]), Rule(TWO, 1, (1, 2), True, (0, 1), TWO)]


class NeedNamesTest(unittest.TestCase):
    def refused(self, thing):
        with self.assertRaises(BadNames) as caught:
            need_names(thing)
        self.assertIs(caught.exception.value, thing)

    def test_most_names(self):
        self.assertEqual(MOST_NAMES, 4)

    def test_names_themselves_are_returned(self):
        good = [TWO, THREE, FOUR, ("a", "aa"), ("a", "zzzzzzzz"), ("abcdefgh", "z"), ("az", "b")]
        for names in good:
            self.assertIs(need_names(names), names)

    def test_by_parameter_name(self):
        self.assertIs(need_names(thing=TWO), TWO)

    def test_number_of_names(self):
        for names in [(), ("a",), ("a", "b", "c", "d", "e"), tuple("abcdefghijklmnopqrstuvwxyz")]:
            self.refused(names)

    def test_lists_and_others(self):
        for thing in [["a", "b"], "ab", {"a": 1, "b": 2}, {"a", "b"}, iter(TWO)]:
            self.refused(thing)

    def test_equal_or_not_ascending(self):
        for names in [("a", "a"), ("b", "a"), ("a", "c", "b"), ("a", "b", "b"), ("aa", "a"),
                      ("a", "b", "a"), ("c", "d", "a", "b")]:
            self.refused(names)

    def test_what_is_no_word(self):
        for wrong in ["", "A", "aB", "a1", "a-b", "a b", " a", "a\n", "`", "{", "abcdefghi", "\n",
                      "a>b", "_"]:
            self.refused(tuple(sorted(["m", wrong])))
            self.refused(tuple(sorted(["m", "n", "o", wrong])))

    def test_things_that_are_no_texts(self):
        for wrong in [None, True, False, 0, 1, b"a", ("a",), ["a"], {}, Stubborn(), object()]:
            self.refused(("a", wrong))
            self.refused((wrong, "a"))
            self.refused(("a", wrong, "c"))

    def test_every_other_value(self):
        for thing in odd_values() + rolls_and_rules():
            self.refused(thing)


class IsPaperTest(unittest.TestCase):
    def test_papers(self):
        for names in (TWO, THREE, FOUR):
            for length in range(1, len(names) + 1):
                for paper in itertools.permutations(names, length):
                    self.assertIs(is_paper(names, paper), True)

    def test_by_parameter_names(self):
        self.assertIs(is_paper(names=TWO, thing=("b",)), True)

    def test_forms_that_are_none(self):
        for thing in [(), ("d",), ("a", "d"), ("a", "a"), ("a", "b", "a"), ("a", "b", "c", "a"),
                      ("ab",), ("",), ("A",), ["a"], "a", "ab", {"a": 1}, {"a"}, (("a",),),
                      ("a", ("b",)), (("a",), ("b",)), b"a", (b"a",), (97,)]:
            self.assertIs(is_paper(THREE, thing), False, thing)

    def test_things_inside_that_cannot_be_compared_or_hashed(self):
        insides = [Stubborn(), [], {}, set(), ["a"], {"a": 1}, ([],), None, True, 1, object()]
        for inside in insides + rolls_and_rules():
            self.assertIs(is_paper(TWO, (inside,)), False)
            self.assertIs(is_paper(TWO, ("a", inside)), False)
            self.assertIs(is_paper(TWO, (inside, "a")), False)

    def test_every_other_value(self):
        for thing in odd_values() + rolls_and_rules():
            self.assertIs(is_paper(THREE, thing), False)


class AllKindsTest(unittest.TestCase):
    def test_two_names(self):
        self.assertEqual(all_kinds(TWO), (("a",), ("a", "b"), ("b",), ("b", "a")))

    def test_all_permutations_ascending(self):
        for names, number in ((TWO, 4), (THREE, 15), (FOUR, 64)):
            kinds = all_kinds(names)
            self.assertIsInstance(kinds, tuple)
            self.assertEqual(len(kinds), number)
            expected = [paper for length in range(1, len(names) + 1)
                        for paper in itertools.permutations(names, length)]
            self.assertEqual(list(kinds), sorted(expected))

    def test_names_of_unlike_length(self):
        self.assertEqual(all_kinds(("a", "aa")), (("a",), ("a", "aa"), ("aa",), ("aa", "a")))

    def test_by_parameter_name(self):
        self.assertEqual(all_kinds(names=TWO), all_kinds(TWO))


class NeedKindsTest(unittest.TestCase):
    def refused(self, names, thing):
        with self.assertRaises(BadKinds) as caught:
            need_kinds(names, thing)
        self.assertIs(caught.exception.value, thing)

    def test_ranges_themselves_are_returned(self):
        for kinds in [(("a",),), (("b", "a"),), (("a", "c"), ("b", "a"), ("c", "b")),
                      all_kinds(THREE), all_kinds(THREE)[3:9]]:
            self.assertIs(need_kinds(THREE, kinds), kinds)
        kinds = all_kinds(FOUR)
        self.assertIs(need_kinds(FOUR, kinds), kinds)

    def test_by_parameter_names(self):
        kinds = (("a",),)
        self.assertIs(need_kinds(names=TWO, thing=kinds), kinds)

    def test_names_first(self):
        for names in odd_values() + [("b", "a"), ["a", "b"]]:
            for thing in [(("a",),), (), None, Stubborn()]:
                with self.assertRaises(BadNames) as caught:
                    need_kinds(names, thing)
                self.assertIs(caught.exception.value, names)

    def test_no_range(self):
        for thing in [(), [("a",)], list(all_kinds(TWO)), (("b",), ("a",)), (("a",), ("a",)),
                      (("a",), ("b",), ("b",)), (("a", "b"), ("a",)), (("a",), ("c",)),
                      (("a",), ()), ((), ("a",)), ("a",), ("a", "b"), (["a"],), (("a", "a"),),
                      (("a",), None), (None, ("a",)), (("a",), Stubborn()), (Stubborn(), ("a",)),
                      (("a",), (Stubborn(),)), (("a",), ("b", [])), {("a",): 1}, {("a",)},
                      (True,), (("a",), 1), ((("a",),),), (("a",),) * 5000]:
            self.refused(TWO, thing)

    def test_every_other_value(self):
        for thing in odd_values() + rolls_and_rules():
            self.refused(TWO, thing)


class RaisedTest(unittest.TestCase):
    def test_in_the_middle(self):
        self.assertEqual(raised(("a", "b", "c"), "b"), ("b", "a", "c"))
        self.assertEqual(raised(("a", "b", "c", "d"), "c"), ("a", "c", "b", "d"))

    def test_at_the_end(self):
        self.assertEqual(raised(("a", "b", "c", "d"), "d"), ("a", "b", "d", "c"))
        self.assertEqual(raised(("a", "b"), "b"), ("b", "a"))

    def test_at_the_first_place(self):
        for paper in [("a",), ("a", "b"), ("a", "c", "b", "d")]:
            self.assertIsNone(raised(paper, "a"))

    def test_lacking(self):
        self.assertEqual(raised(("a",), "b"), ("a", "b"))
        self.assertEqual(raised(("c", "a"), "b"), ("c", "a", "b"))
        self.assertEqual(raised(("aa",), "a"), ("aa", "a"))

    def test_each_move_is_a_paper_with_the_name_further_ahead(self):
        for paper in all_kinds(FOUR):
            for name in FOUR:
                moved = raised(paper, name)
                self.assertEqual(moved is None, paper[0] == name)
                if moved is not None:
                    self.assertTrue(is_paper(FOUR, moved))
                    without = [other for other in paper if other != name]
                    self.assertEqual([other for other in moved if other != name], without)
                    old = paper.index(name) - 1 if name in paper else len(paper)
                    self.assertEqual(moved.index(name), old)

    def test_by_parameter_names(self):
        self.assertEqual(raised(paper=("a", "b"), name="b"), ("b", "a"))


class EqualCallsTest(unittest.TestCase):
    def test_equal_results(self):
        self.assertEqual(all_kinds(THREE), all_kinds(THREE))
        self.assertEqual(raised(("a", "b"), "b"), raised(("a", "b"), "b"))

    def test_what_is_refused_is_not_changed(self):
        names = ["b", "a"]
        kinds = [("b",), ("a",)]
        with self.assertRaises(BadNames):
            need_names(names)
        with self.assertRaises(BadKinds):
            need_kinds(TWO, kinds)
        self.assertFalse(is_paper(TWO, names))
        self.assertEqual((names, kinds), (["b", "a"], [("b",), ("a",)]))


if __name__ == "__main__":
    unittest.main()
