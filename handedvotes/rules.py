"""Rules of a count, and the courses that a count can take by them."""

from handedvotes.errors import BadCourse, BadRule
from handedvotes.forms import is_integer_pair, is_pair, is_within
from handedvotes.papers import is_paper, need_names

FIELDS = ("seats", "quota", "over", "hand", "order")
_MOST_PARTS = 100


class Rule:
    """How many seats there are, how much is enough, what is handed on, and how ties go."""

    def __init__(self, names, seats, quota, over, hand, order):
        need_names(names)
        for place, thing in zip(FIELDS, (seats, quota, over, hand, order)):
            if not is_field(names, place, thing):
                raise BadRule(place)
        self.names = names
        self.seats = seats
        self.quota = quota
        self.over = over
        self.hand = hand
        self.order = order

    def __eq__(self, other):
        return (isinstance(other, Rule) and self.names == other.names
                and self.seats == other.seats and self.quota == other.quota
                and self.over == other.over and self.hand == other.hand
                and self.order == other.order)

    def with_seats(self, seats):
        """The rule with other seats."""
        return Rule(self.names, seats, self.quota, self.over, self.hand, self.order)

    def with_quota(self, quota, over):
        """The rule with another quota."""
        return Rule(self.names, self.seats, quota, over, self.hand, self.order)

    def with_hand(self, hand):
        """The rule with another share that is handed on."""
        return Rule(self.names, self.seats, self.quota, self.over, hand, self.order)

    def with_order(self, order):
        """The rule with other favored names."""
        return Rule(self.names, self.seats, self.quota, self.over, self.hand, order)


def is_field(names, place, thing):
    """Whether any value can stand in the told field of a rule on the names."""
    if place == "seats":
        return is_within(thing, 1, len(names) - 1)
    if place == "quota":
        return is_integer_pair(thing) and 0 < thing[0] < thing[1] <= _MOST_PARTS
    if place == "over":
        return thing is True or thing is False
    if place == "hand":
        return is_integer_pair(thing) and 0 <= thing[0] <= thing[1] and 1 <= thing[1] <= _MOST_PARTS
    return is_paper(names, thing) and len(thing) == len(names)


def units(rule):
    """What each paper is worth at first."""
    worth = 1
    for _ in range(rule.seats):
        worth = worth * rule.hand[1]
    return worth


def all_courses(rule):
    """The ascending tuple of all courses."""
    return tuple(_courses_from(rule.names, rule.seats))


def is_course(rule, thing):
    """Whether any value is a course of the rule."""
    if not isinstance(thing, tuple):
        return False
    going = rule.names
    seats = rule.seats
    for step in thing:
        if has_ended(going, seats) or not _is_step(going, step):
            return False
        going = without_name(going, step[1])
        if step[0] == "in":
            seats = seats - 1
    return has_ended(going, seats)


def winners_of(rule, course):
    """The lot of the winners of a course."""
    if not is_course(rule, course):
        raise BadCourse(course)
    lot = [name for word, name in course if word == "in"]
    if len(lot) < rule.seats:
        stepped = [name for word, name in course]
        lot = lot + [name for name in rule.names if name not in stepped]
    return tuple(sorted(lot))


def has_ended(going, seats):
    """Whether a count ends when these names go on and so many seats are left."""
    return seats == 0 or len(going) <= seats


def without_name(going, name):
    """The names that go on behind a step with a name."""
    return tuple([other for other in going if other != name])


def _courses_from(going, seats):
    # The list is ascending as it is made: the steps are, and so is what follows each.
    if has_ended(going, seats):
        return [()]
    courses = []
    for word, left in (("in", seats - 1), ("out", seats)):
        for name in going:
            ways = _courses_from(without_name(going, name), left)
            courses.extend([((word, name),) + way for way in ways])
    return courses


def _is_step(going, thing):
    if not is_pair(thing) or not isinstance(thing[0], str) or not isinstance(thing[1], str):
        return False
    return thing[0] in ("in", "out") and thing[1] in going
