"""Drafts of terms, in which assumptions are told by their types, and how they are written as terms.

Types are told by their numbers (see elsewhere/numbering.py). Assumptions of the same type are as good as each other;
the one that was bound last is meant. There are two signs that terms do not have: `let` stands for its second part, in
which its first one is an assumption; and `exit` tells that its part has one of several types (see
elsewhere/drafting.py), and is gone when a draft is written.
"""

# For each sign and each of the parts the place, among the types of the draft, of what is bound there; -1 for nothing.
NOTHING = -1
BOUND = {
    "at": (),
    "fun": (0,),
    "call": (-1, -1),
    "pair": (-1, -1),
    "first": (-1,),
    "second": (-1,),
    "left": (-1,),
    "right": (-1,),
    "case": (-1, 0, 1),
    "absurd": (-1,),
    "let": (-1, 0),
    "exit": (-1,),
}

ENTER = 0
BIND = 1
FREE = 2
MAKE = 3


class Draft:
    """A sign, the types that belong to it and its parts.

    The types are: of `at`, `absurd` and `exit` its own one; of `fun` and `let` the one that is bound; of `left` and
    `right` that of the other side; of `case` both that are bound. `free` is the mask of the types of the assumptions
    that are not bound, and `size` the number of drafts in it.
    """

    def __init__(self, sign, types, parts):
        self.sign = sign
        self.types = types
        self.parts = parts
        self.free = 1 << types[0] if sign == "at" else 0
        self.size = 1
        for place, part in zip(BOUND[sign], parts):
            bound = 0 if place == NOTHING else 1 << types[place]
            self.free = self.free | (part.free & ~bound)
            self.size += part.size


def assumption(number):
    """The assumption of a type."""
    return Draft("at", (number,), ())


def uses(draft, number):
    """Whether a draft has an assumption of a type that it does not bind."""
    return (draft.free >> number) & 1 == 1


def let(number, value, body):
    """A draft with another one in place of the assumption of a type."""
    if not uses(body, number) or value.sign == "at" and value.types[0] == number:
        return body
    if body.sign == "at":
        return value
    if body.sign == "exit":
        return Draft("exit", body.types, (let(number, value, body.parts[0]),))
    return Draft("let", (number,), (value, body))


class TermWriter:
    """Writes drafts as terms in a context.

    `paths` has for each type the assumptions of it that are bound here, the innermost one last. Each is a pair of a
    level (0, 1, .. from the outermost binder on; -1, -2, .. in the context) and of the signs that lead on from there.
    """

    def __init__(self, numbering, context):
        self.numbering = numbering
        self.paths = {}
        self.ready = []
        for k in range(len(context) - 1, -1, -1):
            self._bind(numbering.number(context[k]), (-1 - k, ()))

    def _bind(self, number, path):
        self.paths.setdefault(number, []).append(path)

    def as_term(self, draft):
        """The term of a draft."""
        tasks = [(ENTER, draft, 0)]
        while tasks:
            task, item, depth = tasks.pop()
            if task == ENTER:
                tasks.extend(self._tasks(item, depth)[::-1])
            elif task == BIND:
                self._bind(item[0], item[1])
            elif task == FREE:
                self.paths[item].pop()
            else:
                self._make(item)
        return self.ready.pop()

    def _tasks(self, draft, depth):
        """What is to be done, in order, to make the term of a draft inside of some binders."""
        path = self._path(draft)
        if path is not None:
            self.ready.append(_term_at(path, depth))
            return []
        if draft.sign == "let":
            path = self._path(draft.parts[0])
            if path is not None:
                return _with_bound(draft.types[0], path, (ENTER, draft.parts[1], depth))
        tasks = []
        for place, part in zip(BOUND[draft.sign], draft.parts):
            if place == NOTHING:
                tasks.append((ENTER, part, depth))
            else:
                tasks.extend(_with_bound(draft.types[place], (depth, ()), (ENTER, part, depth + 1)))
        return [*tasks, (MAKE, draft, depth)]

    def _path(self, draft):
        """The path of an assumption, or of a part of one; None for other drafts."""
        signs = []
        while draft.sign in ("first", "second"):
            signs.append(draft.sign)
            draft = draft.parts[0]
        if draft.sign != "at":
            return None
        level, before = self.paths[draft.types[0]][-1]
        return (level, (*before, *signs[::-1]))

    def _make(self, draft):
        many = len(draft.parts)
        parts = self.ready[-many:]
        del self.ready[-many:]
        types = [self.numbering.formulas[number] for number in draft.types]
        if draft.sign == "let":
            self.ready.append(("call", ("fun", types[0], parts[1]), parts[0]))
        elif draft.sign == "fun":
            self.ready.append(("fun", types[0], parts[0]))
        elif draft.sign in ("left", "right", "absurd"):
            self.ready.append((draft.sign, parts[0], types[0]))
        else:
            self.ready.append((draft.sign, *parts))


def _with_bound(number, path, task):
    return [(BIND, (number, path), 0), task, (FREE, number, 0)]


def _term_at(path, depth):
    level, signs = path
    found = ("at", depth - 1 - level)
    for sign in signs:
        found = (sign, found)
    return found
