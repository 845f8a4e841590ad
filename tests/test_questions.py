"""[19] by questions.py: calls and systems, and what questions are refused, by each function."""

import itertools
import random
import unittest

import plain
from drawn import FOUR, THREE, TWO, drawn_question, drawn_range, drawn_rule
from handedvotes.errors import BadKinds, BadQuestion, TooMany
from handedvotes.papers import all_kinds
from handedvotes.questions import answer, calls, check, is_never, systems
from handedvotes.rolls import Roll
from handedvotes.rules import Rule, all_courses, winners_of
from odd_values import Stubborn, nested, odd_values

RULE = Rule(TWO, 1, (1, 2), False, (0, 1), TWO)
KINDS = (("a",), ("b",))
IN_A, IN_B, OUT_A, OUT_B = (("in", "a"),), (("in", "b"),), (("out", "a"),), (("out", "b"),)
WORDS = ("course", "raise", "stay", "halves", "part")


def with_signs(text):
    """Of "+-0 ++0!": rows with the weights 1, -1 and 0; those with ! are strict."""
    weights = {"+": 1, "-": -1, "0": 0}
    return tuple([(tuple([weights[sign] for sign in row.rstrip("!")]), row.endswith("!"))
                  for row in text.split()])


class ByHandTest(unittest.TestCase):
    """Each cell of the rule has rows for a's pile less b's, or for the opposite of it."""

    def asked(self, question, expected, kinds=KINDS, rule=RULE):
        self.assertEqual(calls(rule, question, kinds), tuple([call for call, _ in expected]))
        self.assertEqual(systems(rule, question, kinds), tuple([with_signs(rows) for _, rows in expected]))

    def test_course(self):
        self.asked(("course", IN_A), [((IN_A,), "+- +- ++!")])
        self.asked(("course", IN_B), [((IN_B,), "-+ -+! ++!")])
        self.asked(("course", OUT_A), [((OUT_A,), "-+! +-! -+! ++!")])
        self.asked(("course", OUT_B), [((OUT_B,), "-+! +-! +- ++!")])

    def test_raise(self):
        # The unknowns: those with a, with b, and those with b that are moved to b>a.
        self.asked(("raise", "a"), [
            ((IN_A, IN_B), "+-- +-- -++ -++! +++!"),
            ((IN_A, OUT_A), "+-- +-- -++! +--! -++! +++!"),
            ((OUT_B, IN_B), "-++! +--! +-- -++ -++! +++!"),
            ((OUT_B, OUT_A), "-++! +--! +-- -++! +--! -++! +++!")])

    def test_raise_to_a_kind_of_the_range(self):
        # a>b and b>a; those with b>a that are moved become a>b.
        self.asked(("raise", "a"), [
            ((IN_A, IN_B), "+-- +-- -+- -+-! +++!"),
            ((IN_A, OUT_A), "+-- +-- -+-! +-+! -+-! +++!"),
            ((OUT_B, IN_B), "-++! +--! +-- -+- -+-! +++!"),
            ((OUT_B, OUT_A), "-++! +--! +-- -+-! +-+! -+-! +++!")], kinds=(("a", "b"), ("b", "a")))

    def test_raise_where_nothing_can_be_moved(self):
        self.asked(("raise", "b"), [
            ((IN_B, IN_A), "+ +! - - +!"), ((IN_B, OUT_B), "+ +! +! -! - +!"),
            ((OUT_A, IN_A), "+! -! +! - - +!"), ((OUT_A, OUT_B), "+! -! +! +! -! - +!")],
            kinds=(("b", "a"),))

    def test_stay(self):
        # The last unknown: those with b>a that come to the others, or stay away.
        self.asked(("stay", ("b", "a")), [
            ((IN_A, IN_B), "+-- +-- -+0 -+0! ++0!"),
            ((IN_A, OUT_A), "+-- +-- -+0! +-0! -+0! ++0!"),
            ((OUT_B, IN_B), "-++! +--! +-- -+0 -+0! ++0!"),
            ((OUT_B, OUT_A), "-++! +--! +-- -+0! +-0! -+0! ++0!")])

    def test_stay_with_a_paper_of_the_range(self):
        self.asked(("stay", ("a",)), [
            ((IN_B, IN_A), "-+- -+-! +-0 +-0 ++0!"),
            ((IN_B, OUT_B), "-+- -+-! -+0! +-0! +-0 ++0!"),
            ((OUT_A, IN_A), "-+-! +-+! -+-! +-0 +-0 ++0!"),
            ((OUT_A, OUT_B), "-+-! +-+! -+-! -+0! +-0! +-0 ++0!")])

    def test_halves(self):
        self.asked(("halves",), [
            ((IN_A, OUT_B, IN_B), "+-00 +-00 00-+! 00+-! 00+- -+-+ -+-+! ++00! 00++!"),
            ((IN_A, OUT_B, OUT_A), "+-00 +-00 00-+! 00+-! 00+- -+-+! +-+-! -+-+! ++00! 00++!"),
            ((IN_B, OUT_A, IN_A), "-+00 -+00! 00-+! 00+-! 00-+! +-+- +-+- ++00! 00++!"),
            ((IN_B, OUT_A, OUT_B), "-+00 -+00! 00-+! 00+-! 00-+! -+-+! +-+-! +-+- ++00! 00++!")])

    def test_part(self):
        other = RULE.with_order(("b", "a"))
        self.asked(("part", other), [
            ((IN_A, IN_B), "+- +- -+ -+ ++!"),
            ((IN_A, OUT_A), "+- +- -+! +-! -+ ++!"),
            ((IN_B, IN_A), "-+ -+! +- +-! ++!"),
            ((IN_B, OUT_B), "-+ -+! -+! +-! +-! ++!"),
            ((OUT_A, IN_A), "-+! +-! -+! +- +-! ++!"),
            ((OUT_A, OUT_B), "-+! +-! -+! -+! +-! +-! ++!"),
            ((OUT_B, IN_B), "-+! +-! +- -+ -+ ++!"),
            ((OUT_B, OUT_A), "-+! +-! +- -+! +-! -+ ++!")])

    def test_part_from_an_equal_rule(self):
        equal = Rule(TWO, 1, (1, 2), False, (0, 1), TWO)
        self.assertEqual(calls(RULE, ("part", equal), KINDS), (
            (IN_A, IN_B), (IN_A, OUT_A), (IN_B, IN_A), (IN_B, OUT_B),
            (OUT_A, IN_A), (OUT_A, OUT_B), (OUT_B, IN_B), (OUT_B, OUT_A)))
        self.assertEqual(systems(RULE, ("part", equal), KINDS)[0], with_signs("+- +- -+ -+! ++!"))

    def test_part_from_a_rule_with_other_seats(self):
        rule = Rule(THREE, 1, (1, 2), True, (0, 1), THREE)
        other = rule.with_seats(2).with_hand((1, 2))
        told = calls(rule, ("part", other), (("a",),))
        # No lot of one name is one of two, so each two courses are called.
        self.assertEqual(told, tuple(itertools.product(all_courses(rule), all_courses(other))))
        at = told.index(((("in", "a"),), (("out", "a"),)))
        self.assertEqual(systems(rule, ("part", other), (("a",),))[at], (
            ((1,), True), ((1,), False), ((1,), False),
            ((-4,), False), ((4,), False), ((4,), False), ((-4,), True), ((-4,), True), ((1,), True)))

    def test_three_names(self):
        rule = Rule(THREE, 1, (1, 3), False, (0, 1), THREE)
        question = ("raise", "c")
        kinds = (("a", "b"), ("b", "c"), ("c", "a"))
        first, second = (("out", "b"), ("in", "c")), (("in", "a"),)
        told = calls(rule, question, kinds)
        self.assertEqual(len(told), 50)
        # The unknowns: a>b, b>c, c>a; then a>b to a>b>c, and b>c to c>b.
        self.assertEqual(systems(rule, question, kinds)[told.index((first, second))], (
            ((-2, 1, 1, -2, 1), True), ((1, -2, 1, 1, -2), True), ((1, 1, -2, 1, 1), True),
            ((1, -1, 0, 1, -1), False), ((0, -1, 1, 0, -1), True),
            ((-1, 2, 2, -1, 2), False), ((-1, 1, 1, -1, 1), True),
            ((2, -1, -1, 2, -1), False), ((1, -1, 0, 1, 0), False), ((1, 0, -1, 1, -1), False),
            ((1, 1, 1, 1, 1), True)))


class DrawnTest(unittest.TestCase):
    def test_as_the_plain_words(self):
        source = random.Random(19)
        for word in WORDS:
            for names, most in ((TWO, 4), (TWO, 2), (THREE, 3), (THREE, 2 if word == "halves" else 5)):
                rule = drawn_rule(source, names)
                kinds = drawn_range(source, names, most)
                question = drawn_question(source, rule, word)
                self.assertEqual(calls(rule, question, kinds), plain.calls(rule, question))
                self.assertEqual(systems(rule, question, kinds), plain.systems(rule, question, kinds))

    def test_calls_ascend(self):
        source = random.Random(190)
        for word in WORDS:
            for names in (TWO, THREE, THREE):
                rule = drawn_rule(source, names)
                told = calls(rule, drawn_question(source, rule, word), (("a",),))
                self.assertIsInstance(told, tuple)
                self.assertEqual(list(told), sorted(set(told)))

    def test_better_winners_by_the_first_name_that_tells(self):
        rule = Rule(THREE, 2, (1, 2), True, (0, 1), THREE)
        for paper in all_kinds(THREE):
            # Of two seats each lot lacks one name: it is better to lack one that is liked less.
            liking = {name: len(paper) - at for at, name in enumerate(paper)}
            lacking = {course: (set(THREE) - set(winners_of(rule, course))).pop()
                       for course in all_courses(rule)}
            expected = [(one, two) for one in lacking for two in lacking
                        if liking.get(lacking[two], 0) < liking.get(lacking[one], 0)]
            self.assertEqual(calls(rule, ("stay", paper), (("a",),)), tuple(expected))

    def test_course_over_all_kinds_of_four_names(self):
        source = random.Random(191)
        rule = drawn_rule(source, FOUR)
        for course in source.sample(all_courses(rule), 6):
            self.assertEqual(calls(rule, ("course", course), all_kinds(FOUR)), ((course,),))
            self.assertEqual(systems(rule, ("course", course), all_kinds(FOUR)),
                             plain.systems(rule, ("course", course), all_kinds(FOUR)))


def all_five(rule, question, kinds):
    """A call of each of the functions that take a question."""
    return [
        lambda: calls(rule, question, kinds), lambda: systems(rule, question, kinds),
        lambda: answer(rule, question, kinds), lambda: is_never(rule, question, kinds),
        lambda: check(rule, question, kinds, ("never", ())), lambda: check(rule, question, kinds, None),
    ]


class RefusedTest(unittest.TestCase):
    def refused(self, error, value, rule, question, kinds):
        for call in all_five(rule, question, kinds):
            with self.assertRaises(error) as caught:
                call()
            self.assertIs(caught.exception.__class__, error)
            self.assertIs(caught.exception.most if error is TooMany else caught.exception.value, value)

    def no_question(self, question, rule=RULE, kinds=KINDS):
        self.refused(BadQuestion, question, rule, question, kinds)

    def test_unknown_words(self):
        for word in ("", "Course", "courses", "rais", "raised", "never", "rolls", "half", "all", "a", "stay ", "in"):
            self.no_question((word,))
            self.no_question((word, "a"))
            self.no_question((word, IN_A))
            self.no_question((word, RULE))

    def test_too_few_or_too_many_items(self):
        whole = [("course", IN_A), ("raise", "a"), ("stay", ("a",)), ("halves",), ("part", RULE)]
        for question in whole:
            for fewer in range(len(question)):
                self.no_question(question[:fewer])
            self.no_question(question + (None,))
            self.no_question(question + (question[-1],))
            self.no_question(list(question))
            self.no_question((question,))
            self.no_question(question[::-1] if len(question) == 2 else "halves")
        for more in ("a", IN_A, (), None, RULE, ("a",), 1):
            self.no_question(("halves", more))

    def test_the_second_item_of_another_sort(self):
        second = {"course": IN_A, "raise": "a", "stay": ("b", "a"), "part": RULE}
        for word, other in itertools.permutations(second, 2):
            self.no_question((word, second[other]))

    def test_names(self):
        for name in ("c", "", "A", "ab", "a ", ("a",), b"a", ["a"], 0, True, Stubborn()):
            self.no_question(("raise", name))

    def test_papers(self):
        for paper in ((), ("c",), ("a", "a"), ("a", "b", "c"), "a", "ab", ["a"], ("a", None), (("a",),),
                      {"a": 1}, ("a", Stubborn()), (b"a",)):
            self.no_question(("stay", paper))

    def test_courses(self):
        for course in ((), ("in", "a"), (("in", "c"),), IN_A + IN_B, OUT_A + OUT_B, [("in", "a")], (["in", "a"],),
                       (IN_A,), (("in", "a", "b"),), "in", (("in", Stubborn()),), (Stubborn(),)):
            self.no_question(("course", course))
        three = Rule(THREE, 2, (1, 2), False, (0, 1), THREE)
        self.no_question(("course", IN_A), three, (("a",),))
        self.no_question(("course", OUT_A + IN_B), three, (("a",),))

    def test_rules(self):
        for other in (Rule(THREE, 1, (1, 2), False, (0, 1), THREE), Rule(("a", "c"), 1, (1, 2), False, (0, 1), ("a", "c")),
                      Rule(FOUR, 1, (1, 2), False, (0, 1), FOUR), Rule, (RULE,), None, TWO,
                      Roll(TWO, [(("a",), 1)]), (TWO, 1, (1, 2), False, (0, 1), TWO), Stubborn()):
            self.no_question(("part", other))

    def test_every_other_value(self):
        for thing in odd_values() + [RULE, Roll(TWO, [(("a",), 1)]), nested(48), "halves", b"halves", {"halves"}]:
            self.no_question(thing)
            for question in ((thing, "a"), (thing, IN_A), (thing, RULE), (thing, thing), ("halves", thing)):
                self.no_question(question)
            for word in ("course", "raise", "stay"):
                self.no_question((word, thing))
            if not isinstance(thing, Rule):
                self.no_question(("part", thing))
            if not isinstance(thing, str) or thing != "halves":
                self.no_question((thing,))

    def test_ranges(self):
        wrong = odd_values() + [
            (), (("b",), ("a",)), (("a",), ("a",)), (("a",), ("c",)), [("a",)], (["a"],), ("a", "b"), (("a",), ()),
            (("a", "a"),), (("a",), Stubborn()), nested(40), RULE, (RULE,), {("a",): 1}, {("a",)}]
        for question in (("course", IN_A), ("raise", "a"), ("stay", ("a",)), ("halves",), ("part", RULE)):
            for kinds in wrong:
                self.refused(BadKinds, kinds, RULE, question, kinds)

    def test_the_question_first_then_the_range_then_the_names(self):
        rule = Rule(FOUR, 2, (1, 2), False, (0, 1), FOUR)
        good, bad = (("ann",),), (("a",),)
        asked = [("raise", "ann"), ("stay", ("ann",)), ("halves",), ("part", rule), ("part", rule.with_seats(1))]
        for wrong in (None, ("halves", 1), ("raise", "a"), Stubborn(), ("stay", ("a",)), ("part", RULE)):
            self.no_question(wrong, rule, bad)
            self.no_question(wrong, rule, good)
        self.no_question(("halves", 1), RULE, None)
        for question in asked:
            self.refused(BadKinds, bad, rule, question, bad)
            self.refused(TooMany, 3, rule, question, good)
            self.refused(TooMany, 3, rule, question, all_kinds(FOUR))

    def test_course_may_be_asked_of_four_names(self):
        rule = Rule(FOUR, 2, (1, 2), False, (0, 1), FOUR)
        course = (("in", "ann"), ("in", "bob"))
        self.refused(BadKinds, (), rule, ("course", course), ())
        self.assertEqual(calls(rule, ("course", course), (("ann",), ("bob",))), ((course,),))
        self.assertIs(is_never(rule, ("course", course), (("ann",), ("bob",))), False)


class ConventionsTest(unittest.TestCase):
    QUESTIONS = (("course", OUT_B), ("raise", "a"), ("stay", ("b", "a")), ("halves",), ("part", RULE.with_seats(1)))

    def test_by_parameter_names(self):
        for question in self.QUESTIONS:
            self.assertEqual(calls(rule=RULE, question=question, kinds=KINDS), calls(RULE, question, KINDS))
            self.assertEqual(systems(rule=RULE, question=question, kinds=KINDS), systems(RULE, question, KINDS))

    def test_equal_calls_are_equal_and_nothing_is_changed(self):
        first = [(calls(RULE, question, KINDS), systems(RULE, question, KINDS)) for question in self.QUESTIONS]
        again = [(calls(RULE, question, KINDS), systems(RULE, question, KINDS)) for question in self.QUESTIONS[::-1]]
        self.assertEqual(again[::-1], first)
        self.assertEqual(RULE, Rule(TWO, 1, (1, 2), False, (0, 1), TWO))

    def test_what_is_refused_is_not_changed(self):
        question, kinds = ["raise", "a"], [("a",)]
        with self.assertRaises(BadQuestion):
            calls(RULE, question, kinds)
        with self.assertRaises(BadKinds):
            calls(RULE, ("halves",), kinds)
        self.assertEqual((question, kinds), (["raise", "a"], [("a",)]))


if __name__ == "__main__":
    unittest.main()
