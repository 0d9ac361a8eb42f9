"""Texts of formulas."""

from elsewhere.errors import InvalidText
from elsewhere.folding import folded
from elsewhere.formula import FALSUM, dia, iff, neg, verum

SIGNS = ("<->", "->", "<>", "[]", "~", "&", "|", "(", ")", "F", "T")
LETTERS = "abcdefghijklmnopqrstuvwxyz"
DIGITS = "0123456789"
LONGEST_NAME = 12
DEEPEST = 60
HIGHEST = 60


def parse(text):
    """The formula of a text."""
    groups = [[]]
    for token in _tokens(text):
        if token == "(":
            if len(groups) > DEEPEST:
                raise InvalidText("brackets are nested too deep")
            groups.append([])
        elif token == ")":
            if len(groups) == 1:
                raise InvalidText("a bracket is closed that was not opened")
            group = groups.pop()
            groups[-1].append(_formula(group))
        else:
            groups[-1].append(token)
    if len(groups) > 1:
        raise InvalidText("a bracket is not closed")
    a, _ = _formula(groups[0])
    return a


def _tokens(text):
    tokens = []
    at = 0
    while at < len(text):
        if text[at] == " ":
            at += 1
        else:
            token = _token_at(text, at)
            tokens.append(token)
            at += len(token)
    return tokens


def _token_at(text, at):
    for sign in SIGNS:
        if text.startswith(sign, at):
            return sign
    end = at
    while end < len(text) and (text[end] in LETTERS or text[end] in DIGITS):
        end += 1
    name = text[at:end]
    if not is_name(name):
        raise InvalidText("no token begins here")
    return name


def is_name(word):
    """Whether a text is the name of a variable."""
    if not 1 <= len(word) <= LONGEST_NAME or word[0] not in LETTERS:
        return False
    return all([letter in LETTERS or letter in DIGITS for letter in word])


# Below, the items of a row are tokens without brackets, and, in place of each pair of brackets, the tuple of the
# formula between them and its height. Heights are counted along, so that no formula is built beyond the bound.


def _formula(row):
    sides = [_implied(part) for part in _split(row, "<->")]
    if len(sides) == 1:
        return sides[0]
    if len(sides) > 2:
        raise InvalidText("equivalences stand side by side")
    (a, left), (b, right) = sides
    return _bounded(iff(a, b), max(left, right) + 2)


def _implied(row):
    sides = [_joined(part) for part in _split(row, "->")]
    whole = sides.pop()
    while sides:
        whole = _pair("implies", sides.pop(), whole)
    return whole


def _joined(row):
    return _to_the_left("or", [_met(part) for part in _split(row, "|")])


def _met(row):
    return _to_the_left("and", [_prefixed(part) for part in _split(row, "&")])


def _to_the_left(sign, sides):
    whole = sides[0]
    for side in sides[1:]:
        whole = _pair(sign, whole, side)
    return whole


def _prefixed(row):
    if not row:
        raise InvalidText("a formula is missing")
    whole = _atom(row[-1])
    for token in reversed(row[:-1]):
        whole = _with_prefix(token, whole)
    return whole


def _with_prefix(token, whole):
    a, high = whole
    if token == "~":
        return _bounded(neg(a), high + 1)
    if token == "[]":
        return _bounded(("box", a), high + 1)
    if token == "<>":
        return _bounded(dia(a), high + 3)
    raise InvalidText("a sign is missing between two formulas")


def _atom(item):
    if isinstance(item, tuple):
        return item
    if item == "F":
        return (FALSUM, 1)
    if item == "T":
        return (verum(), 2)
    if not is_name(item):
        raise InvalidText("a formula is missing")
    return (("var", item), 1)


def _split(row, sign):
    pieces = [[]]
    for item in row:
        if item == sign:
            pieces.append([])
        else:
            pieces[-1].append(item)
    return pieces


def _pair(sign, first, second):
    return _bounded((sign, first[0], second[0]), max(first[1], second[1]) + 1)


def _bounded(a, high):
    if high > HIGHEST:
        raise InvalidText("the formula is too high")
    return (a, high)


def show(a):
    """The text of a formula with the fewest brackets."""
    text, _ = folded(a, _shown)
    return text


def _shown(a, parts):
    """The text of a formula and its level, from those of its parts."""
    if a == verum():
        return ("T", 5)
    if a[0] == "falsum":
        return ("F", 5)
    if a[0] == "var":
        return (a[1], 5)
    if a[0] == "box":
        return ("[]" + _within(parts[0], 4), 4)
    if a[0] == "implies" and a[2] == FALSUM:
        return ("~" + _within(parts[0], 4), 4)
    left, right = parts
    if a[0] == "implies":
        return (f"{_within(left, 2)} -> {_within(right, 1)}", 1)
    if a[0] == "or":
        return (f"{_within(left, 2)} | {_within(right, 3)}", 2)
    return (f"{_within(left, 3)} & {_within(right, 4)}", 3)


def _within(part, least):
    text, level = part
    if level < least:
        return f"({text})"
    return text
