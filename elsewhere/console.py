"""Theories that are led by texts with one command in each line."""

from elsewhere.asking import asked_formula, numbered_lines
from elsewhere.errors import InvalidLine, InvalidText, NoAxiom
from elsewhere.logics import INTERMEDIATE, MODAL
from elsewhere.text import show
from elsewhere.theory import Theory


def run_console(text):
    """The report of the commands in the lines of a text."""
    theory = None
    report = []
    for command in _commands(text):
        if command[0] == "logic":
            theory = Theory(command[1])
        else:
            report.extend(_report(theory, command))
    return "".join([line + "\n" for line in report])


def _commands(text):
    """The list of the commands, each with its word first; the words of some are followed by a logic or a formula."""
    commands = []
    logic = None
    for number, line in numbered_lines(text):
        try:
            commands.append(_command(logic, line))
        except InvalidText:
            raise InvalidLine(number) from None
        if commands[-1][0] == "logic":
            logic = commands[-1][1]
    return commands


def _command(logic, line):
    """The command of a line behind one that has begun a theory of a logic."""
    word, _, rest = line.partition(" ")
    if word == "logic" and (rest in MODAL or rest in INTERMEDIATE):
        return (word, rest)
    if logic is None:
        raise InvalidText("there is no theory")
    if line in WITHOUT_FORMULAS:
        return (line,)
    # One space stands behind the word, and none at the end of the line.
    if word in WITH_FORMULAS and rest.strip(" ") == rest:
        return (word, asked_formula(logic, rest))
    raise InvalidText("the line is no command")


def _report(theory, command):
    """The list of the lines that are reported of a command."""
    if len(command) == 1:
        tell = WITHOUT_FORMULAS[command[0]]
        return tell(theory)
    tell = WITH_FORMULAS[command[0]]
    return [tell(theory, command[1])]


def _assume(theory, a):
    return "added" if theory.assume(a) else "known"


def _drop(theory, a):
    try:
        theory.drop(a)
    except NoAxiom:
        return "unknown"
    return "dropped"


def _ask(theory, a):
    if not theory.ask(a).is_valid():
        return "no"
    return f"yes {len(theory.core(a))}"


def _check(theory):
    return ["consistent" if theory.is_consistent() else "inconsistent"]


def _axioms(theory):
    return [show(a) for a in theory.axioms()]


def _redundant(theory):
    return [show(a) for a in theory.redundant()]


WITH_FORMULAS = {"assume": _assume, "drop": _drop, "ask": _ask}
WITHOUT_FORMULAS = {"check": _check, "axioms": _axioms, "redundant": _redundant}
