"""The errors of the package, each with the field that tells what was refused."""


class VoteError(ValueError):
    """Any argument that is refused."""


class BadNames(VoteError):
    """A value that is no names, or names that do not fit."""

    def __init__(self, value):
        self.value = value


class BadPaper(VoteError):
    """A value that is no paper on the names."""

    def __init__(self, value):
        self.value = value


class BadRoll(VoteError):
    """Papers that make no roll: the number of the wrong item, or None."""

    def __init__(self, place):
        self.place = place


class BadRule(VoteError):
    """A rule that cannot be: the word of the wrong field."""

    def __init__(self, place):
        self.place = place


class BadCourse(VoteError):
    """A value that is no course of the rule."""

    def __init__(self, value):
        self.value = value


class BadKinds(VoteError):
    """A value that is no range."""

    def __init__(self, value):
        self.value = value


class BadQuestion(VoteError):
    """A value that is no question of the rule."""

    def __init__(self, value):
        self.value = value


class BadAnswer(VoteError):
    """A value that is no answer: the place where it fails."""

    def __init__(self, place):
        self.place = place


class BadNumber(VoteError):
    """A value that is no number, or none that can be here."""

    def __init__(self, value):
        self.value = value


class BadText(VoteError):
    """A text that cannot be read: the number of the wrong line, or None."""

    def __init__(self, line):
        self.line = line


class TooMany(OverflowError):
    """More is wanted than the most that there may be."""

    def __init__(self, most):
        self.most = most
