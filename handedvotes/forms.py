"""The forms that values of any kind are tested for."""


def is_integer(thing):
    """Whether any value is an integer; True and False are none."""
    return isinstance(thing, int) and not isinstance(thing, bool)


def is_within(thing, low, high):
    """Whether any value is an integer from low to high."""
    return is_integer(thing) and low <= thing <= high


def is_pair(thing):
    """Whether any value is a tuple of two."""
    return isinstance(thing, tuple) and len(thing) == 2


def is_integer_pair(thing):
    """Whether any value is a pair of integers."""
    return is_pair(thing) and is_integer(thing[0]) and is_integer(thing[1])


def is_ascending(things):
    """Whether each of some values that can be compared is less than the one behind it."""
    return all([low < high for low, high in zip(things, things[1:])])


def is_same(thing, told):
    """Whether any value equals a told one, which is a text or a tuple of such at any depth."""
    if isinstance(told, str):
        return isinstance(thing, str) and thing == told
    if not isinstance(thing, tuple) or len(thing) != len(told):
        return False
    return all([is_same(part, told_part) for part, told_part in zip(thing, told)])
