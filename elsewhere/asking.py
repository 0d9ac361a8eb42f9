"""Texts whose lines ask about formulas, in questions and in commands."""

from elsewhere.errors import InvalidText
from elsewhere.formula import height, is_plain
from elsewhere.logics import INTERMEDIATE
from elsewhere.text import parse

HIGHEST = 50


def numbered_lines(text):
    """The list of the pairs of a number, counted from 1, and a line, without the lines that are skipped."""
    lines = text.split("\n")
    return [(k, line) for k, line in enumerate(lines, 1) if line != "" and not line.startswith("#")]


def asked_formula(logic, text):
    """The formula of a text, if it may be asked about in a logic; otherwise InvalidText is raised."""
    a = parse(text)
    if height(a) > HIGHEST:
        raise InvalidText("the formula is too high")
    if logic in INTERMEDIATE and not is_plain(a):
        raise InvalidText("a box is in no formula of this logic")
    return a
