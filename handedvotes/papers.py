"""Names, the papers on them, the kinds and their ranges."""

from handedvotes.errors import BadKinds, BadNames
from handedvotes.forms import is_ascending

MOST_NAMES = 4
_FEWEST_NAMES = 2
_MOST_LETTERS = 8


def need_names(thing):
    """The value itself, if it is names."""
    if not are_names(thing):
        raise BadNames(thing)
    return thing


def are_names(thing):
    """Whether any value is names."""
    if not isinstance(thing, tuple) or not _FEWEST_NAMES <= len(thing) <= MOST_NAMES:
        return False
    return all([_is_word(name) for name in thing]) and is_ascending(thing)


def is_paper(names, thing):
    """Whether any value is a paper on the names."""
    if not isinstance(thing, tuple) or not 1 <= len(thing) <= len(names):
        return False
    # What is no text is not compared with the names: it may refuse to be.
    if not all([isinstance(name, str) and name in names for name in thing]):
        return False
    return len(set(thing)) == len(thing)


def all_kinds(names):
    """All papers on the names, ascending."""
    kinds = []
    longest = [()]
    for _ in names:
        longest = [paper + (name,) for paper in longest for name in names if name not in paper]
        kinds.extend(longest)
    return tuple(sorted(kinds))


def need_kinds(names, thing):
    """The value itself, if it is a range on the names."""
    need_names(names)
    if not _is_range(names, thing):
        raise BadKinds(thing)
    return thing


def raised(paper, name):
    """The paper with the name one place further ahead, or None if it is the first."""
    if name not in paper:
        return paper + (name,)
    place = paper.index(name)
    if place == 0:
        return None
    return paper[:place - 1] + (name, paper[place - 1]) + paper[place + 1:]


def _is_word(thing):
    if not isinstance(thing, str) or not 1 <= len(thing) <= _MOST_LETTERS:
        return False
    return all(["a" <= letter <= "z" for letter in thing])


def _is_range(names, thing):
    if not isinstance(thing, tuple) or len(thing) == 0:
        return False
    return all([is_paper(names, kind) for kind in thing]) and is_ascending(thing)
