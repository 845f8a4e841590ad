"""The ways in which a few papers can be spread."""


def spreads(many, places):
    """All tuples of as many numbers from 0 on as there are places that are so many together."""
    if places == 1:
        return [(many,)]
    return [(first,) + rest for first in range(many + 1) for rest in spreads(many - first, places - 1)]


def parts_of(numbers):
    """All tuples of numbers from 0 on that are at most as great, place by place."""
    parts = [()]
    for number in numbers:
        parts = [part + (some,) for part in parts for some in range(number + 1)]
    return parts
