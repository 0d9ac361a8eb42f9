"""Papers: texts that tell a sequent and why it is valid, or why it is not."""

from elsewhere.decision import decide
from elsewhere.derivation import derives
from elsewhere.errors import InvalidLine, InvalidText
from elsewhere.formula import is_plain
from elsewhere.lines import read_derivation, read_number, read_side, write_derivation, write_side
from elsewhere.logics import INTERMEDIATE, MODAL, holds, is_model_of
from elsewhere.model import Model
from elsewhere.asking import asked_formula, numbered_lines
from elsewhere.sequent import sequent
from elsewhere.text import is_name

LONGEST_NUMBER = 6


def write_model(model):
    """The text of a model."""
    worlds, pairs = model.frame()
    lines = [f"worlds {worlds}\n"]
    lines.extend([f"sees {v} {w}\n" for v, w in pairs])
    true = model.true_worlds()
    for name in sorted(true):
        places = " ".join([str(v) for v in true[name]])
        lines.append(f"true {name} {places}\n")
    return "".join(lines)


def read_model(text):
    """The model that has a text."""
    rows = [line.split(" ") for line in _whole_lines(text)]
    if not rows or rows[0][0] != "worlds" or len(rows[0]) != 2:
        raise InvalidText("the number of worlds is not told first")
    worlds = _number(rows[0][1])
    if worlds == 0:
        raise InvalidText("there is no world")
    many = 1
    while many < len(rows) and rows[many][0] == "sees":
        many += 1
    pairs = [_pair(row, worlds) for row in rows[1:many]]
    _check_ascending(pairs)
    true = [_true_row(row, worlds) for row in rows[many:]]
    _check_ascending([name for name, _ in true])
    return Model((worlds, tuple(pairs)), dict(true))


def _whole_lines(text):
    """The lines of a text, each of which has to end with a line feed."""
    lines = text.split("\n")
    if lines.pop() != "":
        raise InvalidText("the last line does not end")
    return lines


def _number(word):
    return read_number(word, LONGEST_NUMBER)


def _world(word, worlds):
    v = _number(word)
    if v >= worlds:
        raise InvalidText("a world does not exist")
    return v


def _pair(row, worlds):
    if len(row) != 3:
        raise InvalidText("a pair does not have two worlds")
    return (_world(row[1], worlds), _world(row[2], worlds))


def _true_row(row, worlds):
    if row[0] != "true" or len(row) < 3 or not is_name(row[1]):
        raise InvalidText("a line does not tell where a variable is true")
    places = [_world(word, worlds) for word in row[2:]]
    _check_ascending(places)
    return (row[1], places)


def _check_ascending(rows):
    if not all([rows[k - 1] < rows[k] for k in range(1, len(rows))]):
        raise InvalidText("what has to ascend does not")


def write_paper(logic, goal):
    """The paper of the decision of a sequent."""
    decision = decide(logic, goal)
    head = f"logic {logic}\nleft {write_side(goal[0])}\nright {write_side(goal[1])}\n"
    if decision.is_valid():
        return head + "derivation\n" + write_derivation(decision.derivation())
    return head + f"refuted {decision.world()}\n" + write_model(decision.model())


def _read_paper(text):
    """The logic, the sequent, the steps or None, and the model and its world or None twice."""
    parts = text.split("\n", 4)
    if len(parts) != 5:
        raise InvalidText("a line is missing")
    logic = _behind("logic ", parts[0])
    if logic not in MODAL and logic not in INTERMEDIATE:
        raise InvalidText("there is no such logic")
    known = {}
    goal = (read_side(_behind("left ", parts[1]), known), read_side(_behind("right ", parts[2]), known))
    if parts[3] == "derivation":
        return (logic, goal, read_derivation(parts[4]), None, None)
    world = _number(_behind("refuted ", parts[3]))
    return (logic, goal, None, read_model(parts[4]), world)


def _behind(word, line):
    """What stands behind a word in a line that begins with it."""
    if not line.startswith(word):
        raise InvalidText("a line does not begin with the word that is due")
    return line[len(word):]


def paper_holds(text):
    """Whether a paper is right."""
    logic, goal, steps, model, world = _read_paper(text)
    if model is None:
        return derives(logic, steps, goal)
    return _refutes(logic, goal, model, world)


def _refutes(logic, goal, model, world):
    """Whether a model is one of a logic and has a world at which a sequent is refuted."""
    left, right = goal
    if logic in INTERMEDIATE and not all([is_plain(a) for a in (*left, *right)]):
        return False
    if not is_model_of(logic, model) or world >= model.frame()[0]:
        return False
    there = all([world in holds(logic, model, a) for a in left])
    return there and not any([world in holds(logic, model, a) for a in right])


def paper_answer(text):
    """What a paper says of its sequent: "valid" or "refuted"."""
    _, _, steps, _, _ = _read_paper(text)
    return "refuted" if steps is None else "valid"


def answers(text):
    """The list of the papers of the questions in the lines of a text."""
    questions = [_question(number, line) for number, line in numbered_lines(text)]
    return [write_paper(logic, goal) for logic, goal in questions]


def _question(number, line):
    """The logic and the sequent of a question in a line with a number."""
    logic, colon, rest = line.partition(" : ")
    sides = rest.split("=>")
    if colon == "" or len(sides) != 2 or logic not in MODAL and logic not in INTERMEDIATE:
        raise InvalidLine(number)
    try:
        return (logic, sequent(_asked_list(logic, sides[0]), _asked_list(logic, sides[1])))
    except InvalidText:
        raise InvalidLine(number) from None


def _asked_list(logic, text):
    if text.strip(" ") == "":
        return []
    return [asked_formula(logic, word) for word in text.split(",")]
