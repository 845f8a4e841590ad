"""What DOC.md lists stands, as written, in the file under which it lists it."""

import inspect
import unittest

from handedvotes import (
    cells, counts, courses, errors, margins, papers, questions, rolls, rules, small, tally, texts)

FUNCTIONS = {
    papers: {
        "need_names": ["thing"], "is_paper": ["names", "thing"], "all_kinds": ["names"],
        "need_kinds": ["names", "thing"], "raised": ["paper", "name"],
    },
    rules: {"units": ["rule"], "all_courses": ["rule"], "winners_of": ["rule", "course"]},
    counts: {"stages": ["rule", "roll"], "course": ["rule", "roll"], "winners": ["rule", "roll"]},
    cells: {
        "cell_of": ["rule", "course", "kinds"], "holds": ["rows", "numbers"],
        "are_bars": ["rows", "thing"], "decided": ["rows"],
    },
    questions: {
        "calls": ["rule", "question", "kinds"], "systems": ["rule", "question", "kinds"],
        "answer": ["rule", "question", "kinds"], "check": ["rule", "question", "kinds", "thing"],
        "is_never": ["rule", "question", "kinds"],
    },
    courses: {
        "shown": ["rule", "kinds"], "possible_winners": ["rule", "kinds"], "can_win": ["rule", "kinds"],
    },
    small: {"smallest": ["rule", "question", "kinds", "most"]},
    margins: {
        "margin": ["rule", "roll", "kinds", "most"], "exchanges": ["rule", "roll", "kinds", "most"],
        "added": ["rule", "roll", "name", "kinds", "most"], "missing": ["rule", "roll", "kinds", "many"],
    },
    tally: {"tried": ["tally", "function"]},
    texts: {
        "roll_text": ["roll"], "read_roll": ["text"], "rule_text": ["rule"], "read_rule": ["text"],
    },
}
CLASSES = {
    errors: ["VoteError", "BadNames", "BadPaper", "BadRoll", "BadRule", "BadCourse", "BadKinds",
             "BadQuestion", "BadAnswer", "BadNumber", "BadText", "TooMany"],
    rolls: ["Roll"],
    rules: ["Rule"],
    tally: ["Tally"],
}
METHODS = {
    rolls.Roll: {
        "__init__": ["self", "names", "papers"], "total": ["self"],
        "without": ["self", "paper", "many"], "exchanged": ["self", "paper", "other", "many"],
    },
    rules.Rule: {
        "__init__": ["self", "names", "seats", "quota", "over", "hand", "order"],
        "with_seats": ["self", "seats"], "with_quota": ["self", "quota", "over"],
        "with_hand": ["self", "hand"], "with_order": ["self", "order"],
    },
    tally.Tally: {
        "__init__": ["self", "rule", "roll"], "steps": ["self"], "is_over": ["self"], "piles": ["self"],
        "winners": ["self"], "step": ["self"], "add": ["self", "paper", "many"], "undo": ["self", "many"],
        "trial": ["self"],
    },
}
OPERATORS = {
    rolls.Roll: ["__getitem__", "__len__", "__eq__", "__add__", "__mul__"],
    rules.Rule: ["__eq__"],
    tally.Tally: ["__len__", "__eq__", "roll"],
}


def parameters(function):
    return list(inspect.signature(function).parameters)


class InterfaceTest(unittest.TestCase):
    def test_functions(self):
        for module, functions in FUNCTIONS.items():
            for name, told in functions.items():
                function = getattr(module, name)
                self.assertEqual(function.__module__, module.__name__)
                self.assertEqual(parameters(function), told)

    def test_classes(self):
        for module, names in CLASSES.items():
            for name in names:
                self.assertEqual(getattr(module, name).__module__, module.__name__)

    def test_methods_stand_in_the_class_itself(self):
        for made, methods in METHODS.items():
            for name, told in methods.items():
                self.assertEqual(parameters(vars(made)[name]), told)

    def test_operators_stand_in_the_class_itself(self):
        for made, names in OPERATORS.items():
            for name in names:
                self.assertIn(name, vars(made))

    def test_numbers_that_may_be_left_out_are_one(self):
        for made, name in ((rolls.Roll, "without"), (rolls.Roll, "exchanged"), (tally.Tally, "add"),
                           (tally.Tally, "undo")):
            many = inspect.signature(vars(made)[name]).parameters["many"]
            self.assertEqual(many.default, 1)

    def test_no_other_defaults(self):
        functions = [getattr(module, name) for module, table in FUNCTIONS.items() for name in table]
        functions += [vars(made)[name] for made, table in METHODS.items() for name in table]
        left_out = [(function.__qualname__, one.name) for function in functions
                    for one in inspect.signature(function).parameters.values() if one.default is not one.empty]
        self.assertEqual(sorted(left_out), [
            ("Roll.exchanged", "many"), ("Roll.without", "many"), ("Tally.add", "many"), ("Tally.undo", "many")])

    def test_listed_attributes_are_set_on_each_object(self):
        names = ("a", "b")
        self.assertTrue({"names", "papers"} <= set(vars(rolls.Roll(names, [(("a",), 1)]))))
        rule = rules.Rule(names, 1, (1, 2), True, (0, 1), names)
        self.assertTrue({"names", "seats", "quota", "over", "hand", "order"} <= set(vars(rule)))
        self.assertIsInstance(vars(tally.Tally)["roll"], property)

    def test_errors_of_the_interface(self):
        for name in CLASSES[errors]:
            base = OverflowError if name == "TooMany" else ValueError if name == "VoteError" else errors.VoteError
            self.assertEqual(getattr(errors, name).__bases__, (base,))
        self.assertEqual(papers.MOST_NAMES, 4)


class ExampleTest(unittest.TestCase):
    """The lines of the document's example."""

    def test_example(self):
        names = ("a", "b", "c")
        rule = rules.Rule(names, 1, (1, 2), True, (0, 1), names)
        roll = rolls.Roll(names, [(("a", "c"), 4), (("b", "a"), 3), (("c", "b"), 3)])
        more = roll + rolls.Roll(names, [(("c", "b"), 1)])
        self.assertEqual(more.papers, ((("a", "c"), 4), (("b", "a"), 3), (("c", "b"), 4)))
        self.assertEqual(counts.stages(rule, roll), (
            ((("a", 4), ("b", 3), ("c", 3)), ("out", "c")), ((("a", 4), ("b", 6)), ("in", "b"))))
        self.assertEqual(counts.winners(rule, roll), ("b",))
        self.assertEqual(counts.winners(rule, more), ("a",))
        kinds = (("a", "c"), ("b", "a"), ("c", "b"))
        self.assertEqual(questions.answer(rule, ("stay", ("c", "b")), kinds)[0], "rolls")
        third = rule.with_quota((1, 3), False)
        self.assertIs(questions.is_never(third, ("stay", ("c", "b")), kinds), True)
        self.assertEqual(cells.decided((((1, -1), True), ((-1, 1), False))), ("bars", ((0, 1), (1, 1))))
        self.assertEqual(len(rules.all_courses(rule)), 15)
        self.assertEqual(margins.margin(rule, roll, kinds, 3), 1)
        self.assertEqual(texts.roll_text(roll), "names a b c\n4 a>c\n3 b>a\n3 c>b")


if __name__ == "__main__":
    unittest.main()
