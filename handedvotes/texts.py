"""Rolls and rules as texts, and back."""

from handedvotes.errors import BadText
from handedvotes.papers import are_names, is_paper
from handedvotes.rolls import Roll
from handedvotes.rules import FIELDS, Rule, is_field

_MOST_DIGITS = 1000
_MOST_FIGURES = 3
_OVER_WORDS = {"yes": True, "no": False}


def roll_text(roll):
    """A roll as a text: its names, then a line for each kind of which there are papers."""
    lines = [_names_line("names", roll.names)]
    for paper, many in roll.papers:
        names = ">".join(paper)
        lines.append(f"{many} {names}")
    return "\n".join(lines)


def read_roll(text):
    """The roll that a text tells."""
    lines = _lines_of(text)
    names = _read_names(lines[0])
    papers = []
    for at, line in enumerate(lines[1:]):
        item = _read_item(names, line)
        if item is None or (len(papers) > 0 and item[0] <= papers[-1][0]):
            raise BadText(at + 2)
        papers.append(item)
    if len(papers) == 0:
        raise BadText(2)
    return Roll(names, papers)


def rule_text(rule):
    """A rule as a text of six lines."""
    low, high = rule.quota
    part, whole = rule.hand
    return "\n".join([
        _names_line("names", rule.names), f"seats {rule.seats}", f"quota {low}/{high}",
        "over yes" if rule.over else "over no", f"hand {part}/{whole}", _names_line("order", rule.order)])


def read_rule(text):
    """The rule that a text tells."""
    lines = _lines_of(text)
    names = _read_names(lines[0])
    fields = []
    for place, line in zip(FIELDS, lines[1:]):
        field = _read_field(place, line)
        if not is_field(names, place, field):
            raise BadText(len(fields) + 2)
        fields.append(field)
    if len(lines) != len(FIELDS) + 1:
        # A line is lacking, or there is a seventh one.
        raise BadText(len(fields) + 2)
    return Rule(names, *fields)


def _names_line(word, names):
    return " ".join([word] + list(names))


def _lines_of(text):
    if not isinstance(text, str):
        raise BadText(None)
    return text.split("\n")


def _read_names(line):
    names = _behind("names", line)
    if not are_names(names):
        raise BadText(1)
    return names


def _behind(word, line):
    """What stands behind the word of a line, with one space ahead of each; None if it lacks."""
    words = line.split(" ")
    return tuple(words[1:]) if words[0] == word else None


def _read_item(names, line):
    """A paper and how many there are, or None."""
    figures, _, rest = line.partition(" ")
    paper = tuple(rest.split(">"))
    if not _is_number(figures, _MOST_DIGITS) or figures[0] == "0" or not is_paper(names, paper):
        return None
    return (paper, int(figures))


def _read_field(place, line):
    """What a line tells of a field of a rule; None or another wrong thing if it tells nothing."""
    words = _behind(place, line)
    if place == "order" or words is None:
        return words
    if len(words) != 1:
        return None
    if place == "seats":
        return _read_figures(words[0])
    if place == "over":
        return _OVER_WORDS.get(words[0])
    return tuple([_read_figures(part) for part in words[0].split("/")])


def _read_figures(text):
    """A number of one to three figures without a needless 0, or None."""
    if not _is_number(text, _MOST_FIGURES) or (text[0] == "0" and text != "0"):
        return None
    return int(text)


def _is_number(text, most):
    """Whether a text is one to so many figures."""
    return 1 <= len(text) <= most and all(["0" <= figure <= "9" for figure in text])
