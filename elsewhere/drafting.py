"""Drafts of terms (see elsewhere/drafts.py) that are made from derivations in Int.

Each step of a derivation gives an outcome: a draft whose assumptions are on the left side of the step, and which has
one or more ends, the drafts of the sign `exit`. Only `case` and `let` stand outside of them. The type of each end is
on the right side of the step, or it is `falsum`. So an outcome has one of the types of its ends.
"""

from elsewhere.drafts import Draft, assumption, let, uses
from elsewhere.numbering import Numbering
from elsewhere.universe import bits

# The parts of a draft in which its ends stand.
TAILS = {"case": (1, 2), "let": (1,)}

# What is not greater is written out wherever it is used.
SMALL = 8

# An outcome with more ends, which has several for some types, gets one end for each type.
MOST = 16


def _end(number, draft):
    return Draft("exit", (number,), (draft,))


def _outer(outcome):
    """The drafts that are outside of the ends of an outcome or ends, and the places of those in the tails of each."""
    found = [outcome]
    links = []
    while len(links) < len(found):
        draft = found[len(links)]
        tails = [draft.parts[place] for place in TAILS.get(draft.sign, ())]
        links.append(list(range(len(found), len(found) + len(tails))))
        found.extend(tails)
    return found, links


def _ends(outcome):
    found, _ = _outer(outcome)
    return [draft for draft in found if draft.sign == "exit"]


def _has_many_ends(outcome):
    types = [end.types[0] for end in _ends(outcome)]
    return len(types) > MOST and len(types) > 2 * len(set(types))


def _changed(outcome, change):
    """The draft with `change(end)` in place of each end."""
    found, links = _outer(outcome)
    for k in range(len(found) - 1, -1, -1):
        draft = found[k]
        if draft.sign == "exit":
            found[k] = change(draft)
        elif draft.sign == "let":
            found[k] = let(draft.types[0], draft.parts[0], found[links[k][0]])
        else:
            found[k] = Draft("case", draft.types, (draft.parts[0], *[found[link] for link in links[k]]))
    return found[0]


class Drafting:
    """The outcomes of the steps of a derivation. What is used several times becomes a function, told by its type."""

    def __init__(self):
        self.numbering = Numbering()
        self.falsum = self.numbering.made("falsum", [])
        self.functions = []
        self.names = 0

    def draft_of(self, steps):
        """The draft of a derivation, whose last conclusion has one formula on its right."""
        many = [0 for _ in steps]
        for _, _, _, numbers in steps:
            for number in numbers:
                many[number] += 1
        found = []
        for k, (rule, _, main, numbers) in enumerate(steps):
            outcome = self._outcome(rule, main, [found[number] for number in numbers])
            if many[k] > 1 and outcome.size > SMALL:
                outcome = self._shared(outcome)
            found.append(self._gathered(outcome) if _has_many_ends(outcome) else outcome)
        draft = self._of_type(found[-1], self.numbering.number(steps[-1][1][1][0]))
        for name, function in reversed(self.functions):
            draft = let(name, function, draft)
        return draft

    def _outcome(self, rule, main, given):
        """The outcome of a step from those of its premises."""
        if rule == "weaken":
            return given[0]
        if rule == "falsum":
            return _end(self.falsum, assumption(self.falsum))
        m = self.numbering.number(main)
        if rule == "axiom":
            return _end(m, assumption(m))
        if rule == "cut":
            return self._continued(given[0], {m: given[1]})
        _, a, b = self.numbering.rows[m]
        if rule == "and_left":
            first, second = Draft("first", (), (assumption(m),)), Draft("second", (), (assumption(m),))
            return let(a, first, let(b, second, given[0]))
        if rule == "and_right":
            both = _end(m, Draft("pair", (), (assumption(a), assumption(b))))
            return self._continued(given[0], {a: self._continued(given[1], {b: both})})
        if rule == "or_left":
            for number, outcome in zip((a, b), given):
                if not uses(outcome, number):
                    return outcome
            return Draft("case", (a, b), (assumption(m), *given))
        if rule == "or_right":
            left = _end(m, Draft("left", (b,), (assumption(a),)))
            right = _end(m, Draft("right", (a,), (assumption(b),)))
            return self._continued(given[0], {b: right, a: left})
        if rule == "implies_left":
            called = Draft("call", (), (assumption(m), assumption(a)))
            return self._continued(given[0], {a: let(b, called, given[1])})
        return _end(m, Draft("fun", (a,), (self._of_type(given[0], b),)))

    def _continued(self, outcome, table):
        """The outcome that goes on from ends of some types with the outcomes of a dict, as assumptions of these."""
        types = [end.types[0] for end in _ends(outcome)]
        for number, further in table.items():
            if number in types and not uses(further, number):
                return further
        if any([types.count(number) > 1 and further.size > SMALL for number, further in table.items()]):
            outcome = self._gathered(outcome)

        def change(end):
            number = end.types[0]
            return let(number, end.parts[0], table[number]) if number in table else end

        return _changed(outcome, change)

    def _of_type(self, outcome, number):
        """The draft of an outcome all of whose ends have a type or are `falsum`."""
        def change(end):
            inner = end.parts[0]
            return inner if end.types[0] == number else Draft("absurd", (number,), (inner,))

        return _changed(outcome, change)

    def _gathered(self, outcome):
        """The outcome with one end for each type."""
        types, draft = self._summed(outcome)
        return self._spread(types, draft)

    def _summed(self, outcome):
        """The ascending list of the types of the ends of an outcome, and its draft as one of their disjunction."""
        found = sorted({end.types[0] for end in _ends(outcome)})
        types = [number for number in found if number != self.falsum] or found

        def change(end):
            number, inner = end.types[0], end.parts[0]
            if number not in types:
                return Draft("absurd", (self._sum(types),), (inner,))
            return self._injected(inner, types.index(number), types)

        return types, _changed(outcome, change)

    def _injected(self, draft, place, types):
        """The draft of a type of a list as one of the disjunction of the list."""
        if place + 1 < len(types):
            draft = Draft("left", (self._sum(types[place + 1:]),), (draft,))
        for other in reversed(types[:place]):
            draft = Draft("right", (other,), (draft,))
        return draft

    def _spread(self, types, draft):
        """The outcome of a draft of the disjunction of some types, with one end for each."""
        if len(types) == 1:
            return _end(types[0], draft)
        outcome = _end(types[-1], assumption(types[-1]))
        for k in range(len(types) - 2, -1, -1):
            chosen = draft if k == 0 else assumption(self._sum(types[k:]))
            bound = (types[k], self._sum(types[k + 1:]))
            outcome = Draft("case", bound, (chosen, _end(types[k], assumption(types[k])), outcome))
        return outcome

    def _sum(self, types):
        """The number of the disjunction of some types."""
        number = types[-1]
        for other in reversed(types[:-1]):
            number = self.numbering.made("or", [other, number])
        return number

    def _shared(self, outcome):
        """The outcome that calls a function of its assumptions instead."""
        types, function = self._summed(outcome)
        name = self._sum(types)
        numbers = bits(function.free & ~self.names)
        for number in reversed(numbers):
            name, function = self.numbering.made("implies", [number, name]), Draft("fun", (number,), (function,))
        self.functions.append((name, function))
        self.names = self.names | (1 << name)
        draft = assumption(name)
        for number in numbers:
            draft = Draft("call", (), (draft, assumption(number)))
        return self._spread(types, draft)
