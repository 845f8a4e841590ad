"""Rules, ranges and rolls that are drawn, the same ones in each run."""

from handedvotes.papers import all_kinds
from handedvotes.rolls import Roll
from handedvotes.rules import Rule, all_courses

TWO = ("a", "b")
THREE = ("a", "b", "c")
FOUR = ("ann", "bob", "cy", "dee")
# Simple shares bring ties and piles that are just at the quota.
QUOTAS = [(1, 2), (1, 3), (1, 4), (2, 3), (1, 100), (99, 100), (2, 4)]
HANDS = [(0, 1), (1, 1), (1, 2), (2, 3), (0, 5), (100, 100), (33, 100)]


def drawn_rule(source, names):
    quota = source.choice(QUOTAS)
    hand = source.choice(HANDS)
    if source.random() < 0.4:
        quota = tuple(sorted(source.sample(range(1, 101), 2)))
        hand = tuple(sorted([source.randint(1, 100), source.randint(1, 100)]))
    order = tuple(source.sample(names, len(names)))
    return Rule(names, source.randint(1, len(names) - 1), quota, source.random() < 0.5, hand, order)


def drawn_range(source, names, most):
    kinds = all_kinds(names)
    return tuple(sorted(source.sample(kinds, source.randint(1, min(most, len(kinds))))))


def drawn_roll(source, names, kinds, most):
    some = source.sample(kinds, source.randint(1, len(kinds)))
    return Roll(names, [(kind, source.randint(1, most)) for kind in some])


def drawn_question(source, rule, word):
    if word == "course":
        return ("course", source.choice(all_courses(rule)))
    if word == "raise":
        return ("raise", source.choice(rule.names))
    if word == "stay":
        return ("stay", source.choice(all_kinds(rule.names)))
    if word == "part":
        return ("part", drawn_rule(source, rule.names))
    return ("halves",)
