"""[11] and [12] by texts.py: roll_text and read_roll, rule_text and read_rule."""

import itertools
import random
import unittest

from drawn import FOUR, THREE, TWO, drawn_roll, drawn_rule
from handedvotes.errors import BadText
from handedvotes.papers import all_kinds
from handedvotes.rolls import Roll
from handedvotes.rules import Rule
from handedvotes.texts import read_roll, read_rule, roll_text, rule_text
from odd_values import odd_values

ROLL_TEXT = "names a b c\n4 a>c\n3 b>a\n3 c>b"
ROLL = Roll(THREE, [(("a", "c"), 4), (("b", "a"), 3), (("c", "b"), 3)])
RULE_TEXT = "names ann bob cy dee\nseats 2\nquota 1/3\nover no\nhand 2/5\norder dee ann cy bob"
RULE = Rule(FOUR, 2, (1, 3), False, (2, 5), ("dee", "ann", "cy", "bob"))
HUGE = int("9" * 1000)
# What stands for a line that can stand nowhere.
WRONG_LINES = ["", " ", "x", "names", "4", "a", ">", "/", "seats", "\t", "names  a b", "-", "yes"]


class TextsTestCase(unittest.TestCase):
    def refused(self, read, line, text):
        with self.assertRaises(BadText) as caught:
            read(text)
        self.assertEqual(caught.exception.line, line, text[:200] if isinstance(text, str) else None)
        self.assertIs(caught.exception.line.__class__, line.__class__)

    def wrong_line(self, read, text, number, line):
        """A text is refused for a line that is put instead of one of its lines."""
        lines = text.split("\n")
        lines[number - 1] = line
        self.refused(read, number, "\n".join(lines))


class RollTextTest(TextsTestCase):
    def test_the_example(self):
        self.assertEqual(roll_text(ROLL), ROLL_TEXT)
        self.assertEqual(read_roll(ROLL_TEXT), ROLL)

    def test_texts(self):
        self.assertEqual(roll_text(Roll(TWO, [(("b",), 1)])), "names a b\n1 b")
        self.assertEqual(roll_text(Roll(FOUR, [(("dee", "ann", "cy", "bob"), 10), (("ann",), 7)])),
                         "names ann bob cy dee\n7 ann\n10 dee>ann>cy>bob")

    def test_there_and_back(self):
        source = random.Random(30)
        for _ in range(100):
            names = source.choice([TWO, THREE, FOUR])
            roll = drawn_roll(source, names, all_kinds(names), source.choice([1, 12, 10 ** 6, HUGE]))
            text = roll_text(roll)
            self.assertIsInstance(text, str)
            self.assertEqual(read_roll(text), roll)
            self.assertEqual(roll_text(read_roll(text)), text)
            self.assertEqual(len(text.split("\n")), len(roll) + 1)

    def test_all_kinds(self):
        roll = Roll(FOUR, [(kind, at + 1) for at, kind in enumerate(all_kinds(FOUR))])
        self.assertEqual(read_roll(roll_text(roll)), roll)

    def test_numbers_of_a_thousand_digits(self):
        for many in (HUGE, 10 ** 999):
            roll = Roll(THREE, [(("a",), many), (("b", "c"), 1)])
            self.assertEqual(roll_text(roll), f"names a b c\n{many} a\n1 b>c")
            self.assertEqual(read_roll(roll_text(roll)), roll)


class ReadRollTest(TextsTestCase):
    def wrong(self, number, line, text=ROLL_TEXT):
        self.wrong_line(read_roll, text, number, line)

    def test_no_string(self):
        others = [ROLL, RULE, [ROLL_TEXT], (ROLL_TEXT,), ROLL_TEXT.encode(), ROLL_TEXT.split("\n")]
        for thing in odd_values() + others:
            if not isinstance(thing, str):
                self.refused(read_roll, None, thing)

    def test_names(self):
        for line in ["names", "names ", "names a", "names a ", "names b a", "names a a", "names a b c d e",
                     "names a b c a", "Names a b c", "name a b c", "namesa b c", "a b c", " names a b c", "names a b c ",
                     "names  a b c", "names a  b c", "names\ta b c", "names A b c", "names a b1 c",
                     "names a b ccccccccc", "names a,b,c", "names a>b>c", "names a c b", "names a b -", "order a b c",
                     "names a b c:", "", " ", "4 a>c"]:
            self.wrong(1, line)
            self.refused(read_roll, 1, line)
            self.refused(read_roll, 1, line + "\nx")
        self.assertEqual(read_roll("names a bbbbbbbb\n1 a").names, ("a", "bbbbbbbb"))

    def test_forms_of_lines(self):
        for at, (many, names) in enumerate((("4", "a>c"), ("3", "b>a"), ("3", "c>b"))):
            for line in [f"{many}  {names}", f" {many} {names}", f"{many} {names} ", f"{many}{names}",
                         f"{names} {many}", f"{many}\t{names}", f"{many}>{names}", f"{many} {names}>",
                         f"{many} >{names}", many, names, f"{many} ", f" {names}", f"{many} {names} {names}",
                         f"{many} {names.replace('>', ' > ')}", f"{many} {names.replace('>', ' ')}",
                         f"{many} {names.replace('>', '>>')}", f"{many}, {names}", f"{many}: {names}",
                         f"{many} {names.replace('>', ',')}", f"{many} {names.upper()}", f"{many} {names}>x",
                         f"{many} x", f"{many} {names}>{names}", f"{many} {names[0]}>{names[0]}", f"names {names}"]:
                self.wrong(at + 2, line)
            for line in WRONG_LINES:
                self.wrong(at + 2, line)

    def test_numbers(self):
        for figures in ["0", "00", "04", "+4", "-4", "4.", "4.0", "4e1", "0x4", "4_0", "1,000", "four", "", "4 4",
                        "4/1", "10" * 500 + "1", "1" * 1001, "0" * 1000, "0" + "1" * 999]:
            for number, names in ((2, "a>c"), (3, "b>a"), (4, "c>b")):
                self.wrong(number, f"{figures} {names}")
        for figures in ["1", "9", "10", "1" * 999, "1" * 1000, "9" * 1000, "1" + "0" * 999]:
            self.assertEqual(read_roll(f"names a b\n{figures} a>b")[("a", "b")], int(figures))

    def test_lines_that_do_not_ascend(self):
        lines = ["1 a", "1 a>b", "1 a>b>c", "1 a>c", "1 b", "1 b>a", "1 c>b>a"]
        for many in (2, 3):
            for some in itertools.product(lines, repeat=many):
                papers = [line[2:].split(">") for line in some]
                wrong = [at for at in range(1, many) if papers[at] <= papers[at - 1]]
                text = "\n".join(("names a b c",) + some)
                if wrong:
                    self.refused(read_roll, wrong[0] + 2, text)
                else:
                    self.assertEqual(roll_text(read_roll(text)), text)

    def test_ascending_by_the_names_whatever_the_numbers(self):
        names = ("a", "ab", "z")
        roll = Roll(names, [(("a", "z"), 9), (("ab",), 80), (("ab", "z"), 7), (("z", "ab"), 60)])
        self.assertEqual(read_roll(roll_text(roll)), roll)
        self.refused(read_roll, 3, "names a ab z\n1 ab\n1 a>z")

    def test_too_few_lines(self):
        self.refused(read_roll, 2, "names a b")
        self.refused(read_roll, 2, "names a b\n")
        self.refused(read_roll, 1, "")
        self.refused(read_roll, 1, "\n")
        self.refused(read_roll, 1, "\nnames a b\n1 a")

    def test_empty_lines(self):
        lines = ROLL_TEXT.split("\n")
        for at in range(len(lines) + 1):
            self.refused(read_roll, at + 1, "\n".join(lines[:at] + [""] + lines[at:]))
        self.refused(read_roll, 5, ROLL_TEXT + "\n")
        self.refused(read_roll, 5, ROLL_TEXT + "\n\n")

    def test_lines_doubled_turned_about_and_left_out(self):
        lines = ROLL_TEXT.split("\n")
        for at in range(len(lines)):
            self.refused(read_roll, at + 2, "\n".join(lines[:at + 1] + lines[at:]))
        self.refused(read_roll, 1, "\n".join(lines[::-1]))
        self.refused(read_roll, 1, "\n".join(lines[1:]))
        self.refused(read_roll, 3, "\n".join([lines[0], lines[2], lines[1], lines[3]]))
        self.refused(read_roll, 4, "\n".join([lines[0], lines[1], lines[3], lines[2]]))
        for at in (1, 2, 3):
            self.assertEqual(len(read_roll("\n".join(lines[:at] + lines[at + 1:]))), 2)

    def test_the_first_wrong_line_is_told(self):
        self.refused(read_roll, 2, "names a b\n0 a\n1 a\n1 a")
        self.refused(read_roll, 3, "names a b\n1 a\n1 a\n0 a")
        self.refused(read_roll, 1, "names b a\n0 a")
        self.refused(read_roll, 4, "names a b\n1 a\n2 a>b\n3 c\nx")

    def test_strings_of_other_kinds(self):
        for text in ["a", " ", "names", "a" * 20000, "\n" * 20000, "names a b c " * 1000, "None", rule_text(RULE)]:
            self.refused(read_roll, 2 if text.startswith("names ann") else 1, text)
        self.refused(read_roll, 2, "names a b\n" + "1" * 19000 + " a")


class RuleTextTest(TextsTestCase):
    def test_a_rule(self):
        self.assertEqual(rule_text(RULE), RULE_TEXT)
        self.assertEqual(read_rule(RULE_TEXT), RULE)

    def test_texts(self):
        self.assertEqual(rule_text(Rule(TWO, 1, (1, 100), True, (0, 1), TWO)),
                         "names a b\nseats 1\nquota 1/100\nover yes\nhand 0/1\norder a b")
        self.assertEqual(rule_text(Rule(THREE, 2, (99, 100), False, (100, 100), ("c", "a", "b"))),
                         "names a b c\nseats 2\nquota 99/100\nover no\nhand 100/100\norder c a b")

    def test_there_and_back(self):
        source = random.Random(31)
        for _ in range(300):
            rule = drawn_rule(source, source.choice([TWO, THREE, FOUR]))
            text = rule_text(rule)
            self.assertIsInstance(text, str)
            again = read_rule(text)
            self.assertEqual(again, rule)
            self.assertIs(again.over, rule.over)
            self.assertEqual(rule_text(again), text)
            self.assertEqual(len(text.split("\n")), 6)

    def test_forms_that_are_alike_stay_as_they_are(self):
        rule = RULE.with_quota((2, 4), True).with_hand((0, 7))
        self.assertIn("quota 2/4\nover yes\nhand 0/7", rule_text(rule))
        self.assertEqual(read_rule(rule_text(rule)).quota, (2, 4))


class ReadRuleTest(TextsTestCase):
    def wrong(self, number, *lines):
        for line in lines:
            self.wrong_line(read_rule, RULE_TEXT, number, line)

    def test_no_string(self):
        others = [ROLL, RULE, [RULE_TEXT], (RULE_TEXT,), RULE_TEXT.encode(), RULE_TEXT.split("\n")]
        for thing in odd_values() + others:
            if not isinstance(thing, str):
                self.refused(read_rule, None, thing)

    def test_every_line(self):
        for number in range(1, 7):
            self.wrong(number, *WRONG_LINES)
            for other in RULE_TEXT.split("\n")[:number - 1] + RULE_TEXT.split("\n")[number:]:
                self.wrong(number, other)
            line = RULE_TEXT.split("\n")[number - 1]
            word, rest = line.split(" ", 1)
            self.wrong(number, line + " ", " " + line, line.replace(" ", "  ", 1), line.replace(" ", "\t", 1),
                       line.replace(" ", "", 1), line.upper(), line + " " + rest, word, word + " ", rest, line + "/1",
                       word + ":" + rest, word + "=" + rest, word + "s " + rest, line + ",")

    def test_names(self):
        self.wrong(1, "names ann bob dee cy", "names ann ann bob cy", "names ann", "names ann bob cy dee eve",
                   "names Ann bob cy dee", "names ann bob cy deeeeeeee", "names ann>bob>cy>dee")

    def test_seats(self):
        self.wrong(2, "seats 0", "seats 4", "seats 5", "seats 02", "seats 00", "seats +2", "seats -1", "seats 2.0",
                   "seats 2 2", "seats two", "seats 0002", "seats 1000", "seats 2_", "seats 1/2", "seats 999", "seats ")
        for seats in (1, 2, 3):
            self.assertEqual(read_rule(RULE_TEXT.replace("seats 2", f"seats {seats}")).seats, seats)

    def test_seats_hang_on_the_names(self):
        text = "names a b\nseats {}\nquota 1/2\nover yes\nhand 0/1\norder a b"
        self.assertEqual(read_rule(text.format(1)).seats, 1)
        for seats in (0, 2, 3):
            self.refused(read_rule, 2, text.format(seats))

    def test_quotas(self):
        self.wrong(3, "quota 1", "quota 1/", "quota /3", "quota 1/3/5", "quota 1 / 3", "quota 1/ 3", "quota 1 /3",
                   "quota 1:3", "quota 1//3", "quota 0/3", "quota 3/3", "quota 3/1", "quota 1/101", "quota 100/101",
                   "quota 01/3", "quota 1/03", "quota +1/3", "quota -1/3", "quota 1/-3", "quota 1/3 ", "quota 1.0/3",
                   "quota 1/1000", "quota 0001/3", "quota 00/3", "quota 1\\3", "quota a/b", "quota 0/0", "quota yes")
        for quota in ((1, 2), (1, 100), (99, 100), (10, 20)):
            text = RULE_TEXT.replace("quota 1/3", f"quota {quota[0]}/{quota[1]}")
            self.assertEqual(read_rule(text).quota, quota)

    def test_over(self):
        self.wrong(4, "over", "over ", "over maybe", "over Yes", "over YES", "over True", "over 1", "over 0",
                   "over yes no", "over n", "over y", "overyes", "over yes/no")
        self.assertIs(read_rule(RULE_TEXT).over, False)
        self.assertIs(read_rule(RULE_TEXT.replace("over no", "over yes")).over, True)

    def test_hands(self):
        self.wrong(5, "hand 2", "hand 2/", "hand /5", "hand 2/5/7", "hand 2 5", "hand 6/5", "hand 0/0", "hand 1/0",
                   "hand 0/101", "hand 101/101", "hand 00/5", "hand 02/5", "hand 2/05", "hand -2/5", "hand +2/5",
                   "hand 2/5.", "hand 2,5", "hand 2/500", "hand 0/1000")
        for hand in ((0, 1), (0, 100), (1, 1), (100, 100), (2, 4)):
            text = RULE_TEXT.replace("hand 2/5", f"hand {hand[0]}/{hand[1]}")
            self.assertEqual(read_rule(text).hand, hand)

    def test_orders(self):
        self.wrong(6, "order", "order ", "order dee ann cy", "order dee ann cy bob bob", "order dee ann cy cy",
                   "order dee ann cy eve", "order dee>ann>cy>bob", "order Dee ann cy bob", "order dee ann  cy bob",
                   "order dee ann cy bob eve", "names dee ann cy bob")
        for order in itertools.permutations(FOUR):
            text = RULE_TEXT.replace("order dee ann cy bob", "order " + " ".join(order))
            self.assertEqual(read_rule(text).order, order)

    def test_fewer_lines(self):
        lines = RULE_TEXT.split("\n")
        for many in range(1, 6):
            self.refused(read_rule, many + 1, "\n".join(lines[:many]))
            self.refused(read_rule, many + 1, "\n".join(lines[:many]) + "\n")
            # What cannot stand is told ahead of what lacks.
            self.refused(read_rule, many, "\n".join(lines[:many - 1] + ["x"]))
        self.refused(read_rule, 1, "")
        self.refused(read_rule, 1, "\n" * 5)

    def test_more_lines(self):
        for more in ("", "x", "order dee ann cy bob", "names ann bob cy dee", " ", "\n", "\nx", "seats 2"):
            self.refused(read_rule, 7, RULE_TEXT + "\n" + more)
        self.refused(read_rule, 7, RULE_TEXT + "\n" + RULE_TEXT)
        # A wrong line ahead of it is told first.
        for number in range(1, 7):
            lines = RULE_TEXT.split("\n") + ["x"]
            lines[number - 1] = "y"
            self.refused(read_rule, number, "\n".join(lines))

    def test_lines_left_out_doubled_and_turned_about(self):
        lines = RULE_TEXT.split("\n")
        for at in range(5):
            self.refused(read_rule, at + 1, "\n".join(lines[:at] + lines[at + 1:]))
        for at in range(6):
            self.refused(read_rule, at + 2, "\n".join(lines[:at + 1] + lines[at:]))
            self.refused(read_rule, at + 1, "\n".join(lines[:at] + [""] + lines[at:]))
        for at in range(5):
            turned = lines[:at] + [lines[at + 1], lines[at]] + lines[at + 2:]
            self.refused(read_rule, at + 1, "\n".join(turned))
        self.refused(read_rule, 1, "\n".join(lines[::-1]))

    def test_the_first_wrong_line_is_told(self):
        wrong = ["names b a", "seats 9", "quota 2/1", "over x", "hand 3/2", "order ann"]
        good = RULE_TEXT.split("\n")
        for several in itertools.product([False, True], repeat=6):
            if any(several):
                lines = [wrong[at] if is_wrong else good[at] for at, is_wrong in enumerate(several)]
                self.refused(read_rule, several.index(True) + 1, "\n".join(lines))

    def test_strings_of_other_kinds(self):
        for text in ["a", " ", "names", "a" * 20000, "\n" * 20000, "names a b c " * 1000, "None"]:
            self.refused(read_rule, 1, text)
        self.refused(read_rule, 2, ROLL_TEXT)
        self.refused(read_rule, 2, "names a b\nseats " + "1" * 19000)


class ConventionsTest(TextsTestCase):
    def test_by_parameter_names(self):
        self.assertEqual(roll_text(roll=ROLL), ROLL_TEXT)
        self.assertEqual(read_roll(text=ROLL_TEXT), ROLL)
        self.assertEqual(rule_text(rule=RULE), RULE_TEXT)
        self.assertEqual(read_rule(text=RULE_TEXT), RULE)

    def test_equal_calls_are_equal_and_nothing_is_changed(self):
        roll, rule = read_roll(ROLL_TEXT), read_rule(RULE_TEXT)
        for _ in range(2):
            self.assertEqual((roll_text(roll), rule_text(rule)), (ROLL_TEXT, RULE_TEXT))
        self.assertEqual((roll, rule), (ROLL, RULE))
        self.assertEqual((read_roll(ROLL_TEXT), read_rule(RULE_TEXT)), (ROLL, RULE))


if __name__ == "__main__":
    unittest.main()
