"""Texts of derivations, with one line for each step."""

from elsewhere.errors import InvalidText
from elsewhere.folding import distinct, place_of
from elsewhere.sequent import is_sequent
from elsewhere.text import parse, show

LETTERS = "abcdefghijklmnopqrstuvwxyz_"
DIGITS = "0123456789"
LONGEST_NUMBER = 9


def write_side(side):
    """The text of the formulas of a side of a sequent."""
    return ", ".join([show(a) for a in side])


def write_derivation(steps):
    """The text of a list of steps."""
    formulas = distinct(_formulas_of(steps))
    texts = [show(a) for a in formulas]

    def text_of(a):
        return texts[place_of(formulas, a)]

    def side_of(side):
        return ", ".join([text_of(a) for a in side])

    lines = []
    for rule, (left, right), main, numbers in steps:
        told = "-" if main is None else text_of(main)
        given = " ".join([str(number) for number in numbers])
        lines.append(f"{rule} : {side_of(left)} => {side_of(right)} : {told} : {given}\n")
    return "".join(lines)


def _formulas_of(steps):
    found = []
    for _, (left, right), main, _ in steps:
        found.extend([*left, *right])
        if main is not None:
            found.append(main)
    return found


def read_derivation(text):
    """The list of steps that has a text."""
    lines = text.split("\n")
    if lines.pop() != "":
        raise InvalidText("the last line does not end")
    known = {}
    return [_step(line, known) for line in lines]


def _step(line, known):
    """The step of a line; `known` are the formulas of the texts that have been read."""
    parts = line.split(" : ")
    if len(parts) != 4:
        raise InvalidText("a line does not have four parts")
    rule, sides, main, numbers = parts
    if rule == "" or not all([letter in LETTERS for letter in rule]):
        raise InvalidText("a rule is no text of letters and underscores")
    formula = None if main == "-" else _formula(main, known)
    given = numbers.split(" ") if numbers != "" else []
    return (rule, _sequent(sides, known), formula, tuple([read_number(word, LONGEST_NUMBER) for word in given]))


def _sequent(text, known):
    sides = text.split(" => ")
    if len(sides) != 2:
        raise InvalidText("a sequent does not have two sides")
    return (read_side(sides[0], known), read_side(sides[1], known))


def read_side(text, known):
    """The formulas of a side of a sequent; those whose texts are read are put into the dict `known`."""
    side = tuple([_formula(word, known) for word in text.split(", ")]) if text != "" else ()
    if not is_sequent((side, ())):
        raise InvalidText("the formulas of a side do not ascend")
    return side


def _formula(text, known):
    if text not in known:
        a = parse(text)
        if show(a) != text:
            raise InvalidText("a formula has other brackets or spaces than are due")
        known[text] = a
    return known[text]


def read_number(word, longest):
    """The number with a decimal form that has no more digits than the longest one."""
    if not 1 <= len(word) <= longest or not all([digit in DIGITS for digit in word]):
        raise InvalidText("a number is missing or has other characters than digits, or too many")
    if word[0] == "0" and word != "0":
        raise InvalidText("a number has a leading zero")
    return int(word)
