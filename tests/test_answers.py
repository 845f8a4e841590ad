"""[20] by questions.py: answer, check and is_never."""

import itertools
import random
import unittest

import plain
from drawn import FOUR, THREE, TWO, drawn_question, drawn_range, drawn_rule
from handedvotes.cells import decided
from handedvotes.errors import BadAnswer
from handedvotes.papers import all_kinds
from handedvotes.questions import answer, calls, check, is_never, systems
from handedvotes.rolls import Roll
from handedvotes.rules import Rule, all_courses
from odd_values import Stubborn, nested, odd_values

A, B, AB, BA = ("a",), ("b",), ("a", "b"), ("b", "a")
IN_A, IN_B, OUT_A, OUT_B = (("in", "a"),), (("in", "b"),), (("out", "a"),), (("out", "b"),)
# Ties go to a; with the other order they go to b.
RULE = Rule(TWO, 1, (1, 2), False, (0, 1), TWO)
TURNED = RULE.with_order(("b", "a"))
EXAMPLE = Rule(THREE, 1, (1, 2), True, (0, 1), THREE)
CYCLE = (("a", "c"), ("b", "a"), ("c", "b"))
WORDS = ("course", "raise", "stay", "halves", "part")


def roll_of(*items, names=TWO):
    return Roll(names, items)


class AnswerTestCase(unittest.TestCase):
    def held(self, rule, question, kinds):
        """An answer, held against the plain words, and against check and is_never."""
        told = answer(rule, question, kinds)
        self.assertIsInstance(told, tuple)
        if told[0] == "never":
            self.held_bars(plain.systems(rule, question, kinds), told)
        else:
            self.held_rolls(rule, question, kinds, told)
        self.assertEqual(check(rule, question, kinds, told), told[0])
        self.assertIs(is_never(rule, question, kinds), told[0] == "never")
        return told

    def held_bars(self, rows, told):
        self.assertEqual(len(told), 2)
        self.assertIsInstance(told[1], tuple)
        self.assertEqual(len(told[1]), len(rows))
        for system, bars in zip(rows, told[1]):
            self.assertTrue(plain.are_bars(system, bars))

    def held_rolls(self, rule, question, kinds, told):
        self.assertEqual(told[0], "rolls")
        self.assertEqual(len(told), 3)
        self.assertIn(told[1], plain.calls(rule, question))
        self.assertIsInstance(told[2], tuple)
        self.assertEqual(len(told[2]), len(plain.brought_by(question, kinds)))
        for roll in told[2]:
            self.assertIsInstance(roll, Roll)
            self.assertEqual(roll.names, rule.names)
        papers = [roll.papers for roll in told[2]]
        self.assertTrue(plain.are_told(question, kinds, papers))
        if question[0] == "part":
            papers = papers * 2
        counted = [plain.course(one, some) for one, some in zip(plain.rules_of(rule, question), papers)]
        self.assertEqual(tuple(counted), told[1])

    def wrong(self, place, rule, question, kinds, thing):
        with self.assertRaises(BadAnswer) as caught:
            check(rule, question, kinds, thing)
        self.assertEqual(caught.exception.place, place)
        self.assertIs(caught.exception.place.__class__, place.__class__)


class ByHandTest(AnswerTestCase):
    def test_the_example(self):
        told = self.held(EXAMPLE, ("stay", ("c", "b")), CYCLE)
        self.assertEqual(told[0], "rolls")
        self.assertIs(is_never(EXAMPLE.with_quota((1, 3), False), ("stay", ("c", "b")), CYCLE), True)
        self.held(EXAMPLE.with_quota((1, 3), False), ("stay", ("c", "b")), CYCLE)

    def test_course(self):
        self.assertEqual(self.held(RULE, ("course", IN_A), (A,))[0], "rolls")
        self.assertEqual(self.held(RULE, ("course", IN_B), (A,))[0], "never")
        self.assertEqual(self.held(RULE, ("course", IN_B), (A, B))[0], "rolls")
        # Of two names one has a half of all papers that stand with them.
        for course in (OUT_A, OUT_B):
            self.assertEqual(self.held(RULE, ("course", course), all_kinds(TWO))[0], "never")
            over = RULE.with_quota((1, 2), True)
            self.assertEqual(self.held(over, ("course", course), all_kinds(TWO))[0],
                             "rolls" if course == OUT_B else "never")

    def test_raise(self):
        # With two names and one round more support never harms; with three it can.
        for name in TWO:
            self.assertEqual(self.held(RULE, ("raise", name), all_kinds(TWO))[0], "never")
        kinds = (("a", "b"), ("b", "c"), ("c", "a"), ("c", "b"))
        for name in THREE:
            told = self.held(EXAMPLE, ("raise", name), all_kinds(THREE))
            self.assertEqual(told[0], "rolls")
            self.held(EXAMPLE, ("raise", name), kinds)
            self.assertEqual(self.held(EXAMPLE.with_quota((1, 100), True), ("raise", name), kinds)[0], "never")

    def test_stay(self):
        for paper in all_kinds(TWO):
            self.assertEqual(self.held(RULE, ("stay", paper), all_kinds(TWO))[0], "never")
        # a has a half of the papers until one comes that names it last.
        rule = Rule(THREE, 1, (1, 2), False, (0, 1), THREE)
        self.assertEqual(self.held(rule, ("stay", ("c", "b", "a")), CYCLE)[0], "rolls")

    def test_halves(self):
        self.assertEqual(self.held(RULE, ("halves",), all_kinds(TWO))[0], "never")
        self.assertEqual(self.held(EXAMPLE, ("halves",), CYCLE)[0], "rolls")
        self.assertEqual(self.held(EXAMPLE, ("halves",), CYCLE[:1])[0], "never")

    def test_part(self):
        self.assertEqual(self.held(RULE, ("part", RULE), all_kinds(TWO))[0], "never")
        told = self.held(RULE, ("part", TURNED), (A, B))
        self.assertEqual(told[:2], ("rolls", (IN_A, IN_B)))
        self.assertEqual(told[2][0][A], told[2][0][B])
        self.assertEqual(self.held(RULE, ("part", TURNED), (A,))[0], "never")
        more = EXAMPLE.with_seats(2)
        self.assertEqual(self.held(EXAMPLE, ("part", more), CYCLE)[0], "rolls")
        self.assertEqual(self.held(more, ("part", EXAMPLE), (A,))[0], "rolls")

    def test_systems_that_one_kind_alone_bars(self):
        for question in (("raise", "a"), ("stay", A), ("halves",), ("part", RULE)):
            told = self.held(RULE, question, (A,))
            self.assertEqual(told[0], "never")
            self.assertEqual(len(told[1]), len(calls(RULE, question, (A,))))

    def test_all_systems_of_never_are_barred_and_one_of_rolls_has_a_solution(self):
        source = random.Random(20)
        for word in WORDS:
            for _ in range(4):
                rule = drawn_rule(source, THREE)
                kinds = drawn_range(source, THREE, 4)
                question = drawn_question(source, rule, word)
                words = [decided(rows)[0] for rows in systems(rule, question, kinds)]
                self.assertEqual("solution" in words, not is_never(rule, question, kinds))


class DrawnTest(AnswerTestCase):
    def test_two_and_three_names(self):
        source = random.Random(200)
        words = {}
        for word in WORDS:
            for _ in range(60):
                names = source.choice([TWO, THREE, THREE, THREE])
                rule = drawn_rule(source, names)
                question = drawn_question(source, rule, word)
                kinds = drawn_range(source, names, 3 if word == "halves" else 6)
                told = self.held(rule, question, kinds)[0]
                words[word, told] = words.get((word, told), 0) + 1
        # Both words come, for each sort of question.
        self.assertEqual(len(words), 10)

    def test_small_rolls_agree(self):
        source = random.Random(201)
        shown = 0
        for word in WORDS:
            for _ in range(25):
                names = source.choice([TWO, THREE, THREE])
                rule = drawn_rule(source, names)
                question = drawn_question(source, rule, word)
                kinds = drawn_range(source, names, 3)
                if plain.small_show(rule, question, kinds, 4):
                    self.assertIs(is_never(rule, question, kinds), False)
                    shown += 1
        self.assertGreater(shown, 15)

    def test_small_rolls_are_all_that_is_needed_with_simple_shares(self):
        # With small shares and few kinds, what some rolls show is shown by small ones.
        source = random.Random(202)
        for word in WORDS:
            for _ in range(8):
                order = tuple(source.sample(TWO, 2))
                rule = Rule(TWO, 1, source.choice([(1, 2), (1, 3), (2, 3)]), source.random() < 0.5, (0, 1), order)
                question = drawn_question(source, rule, word)
                if word == "part":
                    question = ("part", rule.with_quota((1, 2), True).with_order(TWO))
                kinds = drawn_range(source, TWO, 2)
                self.assertIs(is_never(rule, question, kinds),
                              not plain.small_show(rule, question, kinds, 6))

    def test_course_over_all_kinds(self):
        source = random.Random(203)
        for names, rules in ((TWO, 6), (THREE, 3)):
            for _ in range(rules):
                rule = drawn_rule(source, names)
                for course in all_courses(rule):
                    self.held(rule, ("course", course), all_kinds(names))
        for _ in range(4):
            rule = drawn_rule(source, FOUR)
            for course in source.sample(all_courses(rule), 8):
                self.held(rule, ("course", course), all_kinds(FOUR))

    def test_all_kinds_of_three_names(self):
        source = random.Random(204)
        for word in WORDS:
            rule = drawn_rule(source, THREE)
            question = drawn_question(source, rule, word)
            told = answer(rule, question, all_kinds(THREE))
            self.assertEqual(check(rule, question, all_kinds(THREE), told), told[0])

    def test_course_is_had_just_if_some_drawn_roll_may_have_it(self):
        source = random.Random(205)
        for _ in range(30):
            rule = drawn_rule(source, THREE)
            kinds = drawn_range(source, THREE, 4)
            had = {course for course in all_courses(rule) if not is_never(rule, ("course", course), kinds)}
            for numbers in plain.small_numbers(len(kinds), 4)[1:]:
                papers = plain.papers_brought([kinds], numbers)[0]
                self.assertIn(plain.course(rule, papers), had)


class CheckFormTest(AnswerTestCase):
    QUESTION = ("course", IN_B)

    def test_forms(self):
        good = answer(RULE, self.QUESTION, (A, B))
        never = answer(RULE, self.QUESTION, (A,))
        for thing in [
            good[:2], good[:1], good + (None,), list(good), ("never",) + good[1:], ("roll",) + good[1:],
            ("Rolls",) + good[1:], (b"rolls",) + good[1:], (None,) + good[1:], (good,), ("rolls", good[1:]),
            (Stubborn(),) + good[1:], (("rolls",),) + good[1:], good[::-1],
            never[:1], never + ((),), never + never[1:], list(never), ("rolls",) + never[1:],
            ("Never",) + never[1:], ("",) + never[1:], (Stubborn(),) + never[1:], (True,) + never[1:],
            never[::-1], (never,), ("never", "rolls", never[1]), "never", "rolls", "no", {"never": ()},
            RULE, good[2], good[2][0],
        ]:
            self.wrong("form", RULE, self.QUESTION, (A, B), thing)

    def test_every_other_value(self):
        for thing in odd_values() + [RULE, roll_of((A, 1)), nested(45)]:
            for question in (self.QUESTION, ("halves",), ("part", RULE)):
                self.wrong("form", RULE, question, (A, B), thing)
                self.wrong("form", RULE, question, (A, B), (thing,))
                self.wrong("form", RULE, question, (A, B), (thing, ()))
                self.wrong("form", RULE, question, (A, B), (thing, (IN_B,), ()))
                self.wrong("form", RULE, question, (A, B), ("rolls", (IN_B,), (), thing))


class CheckBarsTest(AnswerTestCase):
    QUESTION = ("raise", "a")

    def setUp(self):
        self.kinds = (A, B)
        self.bars = answer(RULE, self.QUESTION, self.kinds)[1]
        self.assertEqual(len(self.bars), 4)

    def changed(self, place, bars):
        self.wrong(place, RULE, self.QUESTION, self.kinds, ("never", bars))

    def test_its_own_answer(self):
        self.assertEqual(check(RULE, self.QUESTION, self.kinds, ("never", self.bars)), "never")

    def test_how_many(self):
        for bars in [(), self.bars[:3], self.bars[1:], self.bars + self.bars[:1], self.bars * 2, list(self.bars),
                     {}, None, "never", (self.bars,), 4, dict(enumerate(self.bars)), Stubborn(), set(self.bars)]:
            self.changed("bars", bars)
        for bars in odd_values():
            self.changed("bars", bars)

    def test_how_many_for_each_question(self):
        for question, many in (("course", IN_B), 1), (("raise", "b"), 4), (("stay", B), 4), (("halves",), 4), (
                ("part", RULE), 8):
            bars = answer(RULE, question, (A,))[1]
            self.assertEqual(len(bars), many)
            self.assertEqual(check(RULE, question, (A,), ("never", bars)), "never")
            self.wrong("bars", RULE, question, (A,), ("never", bars[1:]))
            self.wrong("bars", RULE, question, (A,), ("never", bars + bars[:1]))

    def test_the_first_system_without_bars_is_told(self):
        for at in range(4):
            for wrong in [(), None, [], ((0, 1),), self.bars[at][::-1] + ((0, 1),), list(self.bars[at]),
                          ((99, 1),), Stubborn(), (Stubborn(),), self.bars]:
                self.changed(at, self.bars[:at] + (wrong,) + self.bars[at + 1:])
                self.changed(at, self.bars[:at] + (wrong,) + ((),) * (3 - at))

    def test_each_part_of_bars_changed(self):
        for at in range(4):
            for place, (number, weight) in enumerate(self.bars[at]):
                for item in [(number, 0), (number, -weight), (True, weight), (number, True), (number, None),
                             (number, weight, 1), (number,), [number, weight], (-1, weight), (50, weight),
                             (number, Stubborn()), (Stubborn(), weight), Stubborn()]:
                    bars = self.bars[at][:place] + (item,) + self.bars[at][place + 1:]
                    self.changed(at, self.bars[:at] + (bars,) + self.bars[at + 1:])
                self.changed(at, self.bars[:at] + (self.bars[at] + ((number, weight),),) + self.bars[at + 1:])

    def test_bars_times_something_are_bars(self):
        more = tuple([tuple([(at, weight * 10 ** 1500) for at, weight in bars]) for bars in self.bars])
        self.assertEqual(check(RULE, self.QUESTION, self.kinds, ("never", more)), "never")

    def test_bars_of_another_question(self):
        told = answer(RULE, ("stay", B), (A,))
        self.assertEqual(told[0], "never")
        # Over both kinds papers of b alone let b come in.
        self.wrong(0, RULE, ("course", IN_A), (A, B), ("never", (((0, 1),),)))
        self.wrong("bars", RULE, ("part", RULE), (A,), told)

    def test_never_where_rolls_show_it(self):
        rows = systems(RULE, ("part", TURNED), (A, B))
        at = calls(RULE, ("part", TURNED), (A, B)).index((IN_A, IN_B))
        self.assertEqual(at, 0)
        for bars in (((0, 1), (1, 1), (2, 1), (3, 1)), ((4, 1),), ((0, 1), (2, 1))):
            self.wrong(0, RULE, ("part", TURNED), (A, B), ("never", (bars,) * len(rows)))


class CheckRollsTest(AnswerTestCase):
    def refused(self, question, kinds, told, rule=RULE, place="rolls"):
        self.wrong(place, rule, question, kinds, told)

    def test_what_the_system_is_called(self):
        question = ("part", TURNED)
        rolls = (roll_of((A, 1), (B, 1)),)
        self.assertEqual(check(RULE, question, (A, B), ("rolls", (IN_A, IN_B), rolls)), "rolls")
        for called in [(IN_A,), IN_A, (IN_A, IN_A), (IN_A, OUT_B), (IN_A, IN_B, IN_B), [IN_A, IN_B], (list(IN_A), IN_B),
                       ((["in", "a"],), IN_B), (), None, "called", (IN_A, (("in", Stubborn()),)), Stubborn(),
                       (Stubborn(), Stubborn()), (IN_A, Stubborn()), ((IN_A, IN_B),), 0, (IN_A, (("in", "c"),)),
                       ((("In", "a"),), IN_B), (IN_A, IN_B[0]), ((("in", "a", ""),), IN_B), (((b"in", "a"),), IN_B),
                       RULE, roll_of((A, 1))] + odd_values():
            self.refused(question, (A, B), ("rolls", called, rolls), place="called")
            self.refused(question, (A, B), ("rolls", called, None), place="called")

    def test_what_is_called_so_by_another_question(self):
        rolls = (roll_of((A, 1)), roll_of((A, 1)))
        self.refused(("raise", "a"), (A, B), ("rolls", (IN_B, IN_A), rolls), place="called")
        self.refused(("stay", A), (A, B), ("rolls", (IN_A, IN_B), rolls), place="called")
        self.refused(("halves",), (A, B), ("rolls", (OUT_B, IN_A, IN_B), rolls), place="called")
        self.refused(("course", IN_A), (A, B), ("rolls", (IN_B,), (roll_of((B, 1)),)), place="called")
        self.refused(("course", IN_A), (A, B), ("rolls", IN_A, (roll_of((A, 1)),)), place="called")

    def test_called_right_with_rolls_of_another_system(self):
        question = ("part", TURNED)
        for rolls in ((roll_of((A, 2), (B, 1)),), (roll_of((A, 1)),), (roll_of((B, 3)),)):
            self.refused(question, (A, B), ("rolls", (IN_A, IN_B), rolls))
        self.refused(question, (A, B), ("rolls", (IN_B, IN_A), (roll_of((A, 1), (B, 1)),)))

    def test_course(self):
        question = ("course", IN_B)
        for papers in (((B, 1),), ((A, 2), (B, 3)), ((B, 10 ** 1500),)):
            self.assertEqual(check(RULE, question, (A, B), ("rolls", (IN_B,), (roll_of(*papers),))), "rolls")
        for rolls in [(roll_of((A, 1)),), (roll_of((A, 1), (B, 1)),), (roll_of((BA, 1)),), (roll_of((B, 1), (BA, 1)),),
                      (), (roll_of((B, 1)),) * 2, [roll_of((B, 1))], roll_of((B, 1)), None, (None,), (((B, 1),),),
                      (Roll(("b", "c"), [(B, 1)]),), (Roll(THREE, [(B, 1)]),), (RULE,), (Stubborn(),), Stubborn(),
                      ((roll_of((B, 1)),),), {0: roll_of((B, 1))}, (roll_of,), "b"]:
            self.refused(question, (A, B), ("rolls", (IN_B,), rolls))

    def test_every_other_value_as_rolls(self):
        told = answer(RULE, ("course", IN_B), (A, B))
        for thing in odd_values():
            self.refused(("course", IN_B), (A, B), told[:2] + (thing,))
            self.refused(("course", IN_B), (A, B), told[:2] + ((thing,),))
            self.refused(("course", IN_B), (A, B), told[:2] + (told[2] + (thing,),))

    def test_rolls_of_the_program_itself_with_one_more_or_less_or_other_things(self):
        for question, kinds, names in self.shown_questions():
            told = self.held(EXAMPLE, question, kinds)
            self.assertEqual(told[0], "rolls")
            rolls = told[2]
            for at in range(len(rolls)):
                self.refused(question, kinds, told[:2] + (rolls[:at] + rolls[at + 1:],), EXAMPLE)
                self.refused(question, kinds, told[:2] + (rolls[:at] + rolls[:1] + rolls[at:],), EXAMPLE)
                others = [None, EXAMPLE, rolls[at].papers, (rolls[at],), [rolls[at]], Stubborn(),
                          Roll(names, [((name,), 1) for name in names[:1]]), roll_of((A, 1))]
                for other in others:
                    changed = rolls[:at] + (other,) + rolls[at + 1:]
                    self.refused(question, kinds, told[:2] + (changed,), EXAMPLE)
            self.refused(question, kinds, told[:2] + (list(rolls),), EXAMPLE)
            many = tuple([roll * 7 for roll in rolls])
            self.assertEqual(check(EXAMPLE, question, kinds, told[:2] + (many,)), "rolls")

    def shown_questions(self):
        others = ("a", "b", "d")
        return [(("course", (("out", "c"), ("in", "b"))), CYCLE, others), (("stay", ("c", "b")), CYCLE, others),
                (("halves",), CYCLE, others), (("part", EXAMPLE.with_order(("c", "b", "a"))), CYCLE, others),
                (("raise", "a"), MOVED, others)]

    def test_rolls_with_other_papers(self):
        """What stands for an answer behind any small change is told by the plain words alone."""
        source = random.Random(206)
        verdicts = {}
        for question, kinds, _ in self.shown_questions():
            told = self.held(EXAMPLE, question, kinds)
            for _ in range(150):
                rolls = self.changed_rolls(source, told[2])
                good = plain.is_shown(EXAMPLE, question, kinds, told[1], [roll.papers for roll in rolls])
                verdicts[question[0], good] = verdicts.get((question[0], good), 0) + 1
                if good:
                    self.assertEqual(check(EXAMPLE, question, kinds, told[:2] + (rolls,)), "rolls")
                else:
                    self.refused(question, kinds, told[:2] + (rolls,), EXAMPLE)
        self.assertEqual(len(verdicts), 10)

    def changed_rolls(self, source, rolls):
        rolls = [roll * 5 for roll in rolls]
        for _ in range(source.choice([1, 1, 2])):
            at = source.randrange(len(rolls))
            change = source.choice([(1, 0, 0), (0, 1, 0), (0, 0, 1)])
            paper = source.choice(all_kinds(THREE))
            there = source.choice(rolls[at].papers)[0]
            if change[0]:
                rolls[at] = rolls[at] + Roll(THREE, [(paper, source.randint(1, 9))])
            elif change[1]:
                rolls[at] = rolls[at].exchanged(there, paper, source.randint(1, rolls[at][there]))
            elif rolls[at].total() > rolls[at][there]:
                rolls[at] = rolls[at].without(there, source.randint(1, rolls[at][there]))
        if source.random() < 0.3:
            # The same change of all rolls is a change that an answer often stands.
            more = Roll(THREE, [(source.choice(CYCLE), 1)])
            rolls = [roll + more for roll in rolls]
        return tuple(rolls)


ABC, BAC, BCA, CAB = ("a", "b", "c"), ("b", "a", "c"), ("b", "c", "a"), ("c", "a", "b")
MOVED = (ABC, BAC, BCA, CAB)


class CheckShownTest(AnswerTestCase):
    """Rolls by hand, for the questions that have several of them."""

    def shows(self, question, kinds, called, *rolls):
        self.assertEqual(check(EXAMPLE, question, kinds, ("rolls", called, rolls)), "rolls")
        self.assertIs(is_never(EXAMPLE, question, kinds), False)

    def shows_not(self, question, kinds, called, *rolls, place="rolls"):
        self.wrong(place, EXAMPLE, question, kinds, ("rolls", called, rolls))

    def test_moves(self):
        called = ((("out", "c"), ("in", "a")), (("out", "b"), ("in", "c")))
        ahead = roll_of((ABC, 6), (BAC, 2), (BCA, 4), (CAB, 5), names=THREE)
        behind = roll_of((ABC, 8), (BCA, 4), (CAB, 5), names=THREE)
        self.shows(("raise", "a"), MOVED, called, ahead, behind)
        self.shows_not(("raise", "a"), MOVED, called, behind, ahead)
        self.shows_not(("raise", "a"), MOVED, called, ahead, ahead)
        self.shows_not(("raise", "a"), MOVED, called, ahead, behind + roll_of((CAB, 1), names=THREE))
        self.shows_not(("raise", "a"), MOVED, called[::-1], ahead, behind, place="called")
        self.shows_not(("raise", "b"), MOVED, called, ahead, behind, place="called")
        # What there is has to be in the range.
        self.shows_not(("raise", "a"), MOVED[1:], called, ahead, behind)
        self.shows_not(("raise", "a"), MOVED[:3], called, ahead, behind)
        self.shows_not(("raise", "a"), (ABC, BCA, CAB), called, ahead, behind)

    def test_moves_to_a_kind_out_of_the_range(self):
        called = ((("out", "c"), ("in", "a")), (("out", "b"), ("in", "c")))
        kinds = (A, BAC, BCA, CAB)
        ahead = roll_of((A, 6), (BAC, 2), (BCA, 4), (CAB, 5), names=THREE)
        behind = roll_of((A, 6), (ABC, 2), (BCA, 4), (CAB, 5), names=THREE)
        self.shows(("raise", "a"), kinds, called, ahead, behind)
        self.shows_not(("raise", "a"), kinds, called, ahead, behind.exchanged(A, ABC))
        self.shows_not(("raise", "a"), kinds, called, ahead.exchanged(A, ABC), behind.exchanged(A, ABC))

    def test_moves_to_what_is_moved_itself(self):
        called = ((("out", "c"), ("in", "a")), (("out", "b"), ("in", "c")))
        ahead = roll_of((ABC, 18), (BAC, 6), (BCA, 12), (CAB, 15), names=THREE)
        behind = roll_of((ABC, 24), (BAC, 1), (BCA, 11), (CAB, 15), names=THREE)
        self.shows(("raise", "a"), MOVED, called, ahead, behind)
        # One paper would have to be moved twice: more come to the first kind than there were.
        twice = roll_of((ABC, 25), (BCA, 11), (CAB, 15), names=THREE)
        self.assertEqual(plain.course(EXAMPLE, twice.papers), called[1])
        self.shows_not(("raise", "a"), MOVED, called, ahead, twice)
        # And none can come back.
        back = ahead.exchanged(BAC, ABC, 6).exchanged(BCA, CAB, 1)
        self.assertEqual(plain.course(EXAMPLE, back.papers), called[1])
        self.shows_not(("raise", "a"), MOVED, called, ahead, back)
        self.shows_not(("raise", "a"), MOVED, called, ahead, ahead.exchanged(BCA, ABC, 7))

    def test_stay(self):
        question = ("stay", ("c", "b"))
        called = ((("out", "b"), ("in", "a")), (("out", "c"), ("in", "b")))
        coming = Roll(THREE, tuple(zip(CYCLE, (4, 3, 4))))
        staying = Roll(THREE, tuple(zip(CYCLE, (4, 3, 3))))
        self.shows(question, CYCLE, called, coming, staying)
        # Those that stay are of the range, also if they write the told paper.
        self.shows_not(question, CYCLE[:2], called, coming, staying)
        self.shows_not(question, CYCLE, called, staying, coming)
        self.shows_not(question, CYCLE, called, coming, coming)
        self.shows_not(question, CYCLE, called, coming, staying.exchanged(("b", "a"), ("c", "b")))
        for other in (("a", "c"), ("b", "a")):
            self.shows_not(question, CYCLE, called, coming + Roll(THREE, [(other, 1)]), staying)
        longer = roll_of((("a", "c"), 4), (("b", "a"), 3), (("c", "b"), 3), (("c", "b", "a"), 1), names=THREE)
        self.shows(("stay", ("c", "b", "a")), CYCLE, called, longer, staying)
        self.shows_not(question, CYCLE, called, longer, staying)
        self.shows_not(("stay", ("c", "b", "a")), CYCLE, called, coming, staying)
        self.shows_not(("stay", ("a", "b")), CYCLE, called, coming, staying, place="called")

    def test_halves(self):
        called = ((("out", "a"), ("out", "c")), (("out", "c"), ("in", "b")), (("out", "a"), ("in", "c")))
        first = Roll(THREE, [(("b", "a"), 1), (("c", "b"), 1)])
        second = Roll(THREE, tuple(zip(CYCLE, (1, 1, 1))))
        both = Roll(THREE, tuple(zip(CYCLE, (1, 2, 2))))
        self.shows(("halves",), CYCLE, called, first, second, both)
        self.shows_not(("halves",), CYCLE, called, second, first, both)
        self.shows_not(("halves",), CYCLE, called, first, second, both * 2)
        self.shows_not(("halves",), CYCLE, called, first * 2, second, both)
        self.shows_not(("halves",), CYCLE, called, first, second)
        self.shows_not(("halves",), CYCLE[1:], called, first, second, both)
        self.shows_not(("halves",), CYCLE, called, first, both, second)
        # The lesser course of the two halves is the first one.
        turned = (called[1], called[0], called[2])
        self.shows_not(("halves",), CYCLE, turned, second, first, both, place="called")


class ConventionsTest(AnswerTestCase):
    def test_by_parameter_names(self):
        for question, kinds in ((("part", TURNED), (A, B)), (("halves",), (A,))):
            told = answer(rule=RULE, question=question, kinds=kinds)
            self.assertEqual(told, answer(RULE, question, kinds))
            self.assertEqual(check(rule=RULE, question=question, kinds=kinds, thing=told), told[0])
            self.assertIs(is_never(rule=RULE, question=question, kinds=kinds), told[0] == "never")

    def test_equal_calls_are_equal_whatever_was_asked_in_between(self):
        asked = [(EXAMPLE, ("stay", ("c", "b")), CYCLE), (EXAMPLE, ("halves",), CYCLE), (RULE, ("raise", "a"), (A, B)),
                 (EXAMPLE, ("course", (("out", "c"), ("in", "b"))), CYCLE), (RULE, ("part", TURNED), (A, B))]
        first = [answer(*one) for one in asked]
        self.assertEqual([answer(*one) for one in asked[::-1]], first[::-1])
        self.assertEqual(RULE, Rule(TWO, 1, (1, 2), False, (0, 1), TWO))

    def test_what_is_checked_is_not_changed(self):
        told = answer(RULE, ("part", TURNED), (A, B))
        again = answer(RULE, ("part", TURNED), (A, B))
        check(RULE, ("part", TURNED), (A, B), told)
        self.assertEqual(told, again)
        thing = ["never", []]
        self.wrong("form", RULE, ("part", TURNED), (A, B), thing)
        self.assertEqual(thing, ["never", []])

    def test_words_for_each_question_and_its_range(self):
        for question, other in itertools.product((("raise", "a"), ("stay", BA), ("halves",)), ((A,), (A, B), (AB, BA))):
            self.assertIs(is_never(RULE, question, other), True)


if __name__ == "__main__":
    unittest.main()
