"""Reading the texts of programs."""

from numbertypes.errors import InvalidText
from numbertypes.integers import is_name, read_digits, read_integer
from numbertypes.programs import Program

MOST_DIGITS = 30
KINDS = {"+": "add", "-": "subtract", "*": "multiply"}


def read_program(text):
    """The program with a text; InvalidText for any value that is none, then the errors of Program."""
    if not isinstance(text, str):
        raise InvalidText(0)
    *lines, tail = text.split("\n")
    procedures = []
    at = 0
    while at < len(lines) and lines[at].startswith("proc "):
        procedure, at = read_procedure(lines, at)
        procedures.append(procedure)
    inputs = read_names(lines, at, "in")
    steps, at = read_steps(lines, at + 1)
    outputs = read_names(lines, at, "out")
    if at + 1 < len(lines) or tail != "":
        raise InvalidText(at + 1)
    return Program(inputs, steps, outputs, procedures=procedures)


def read_procedure(lines, at):
    """The pair of the procedure whose first line is at this index, and the index behind its last line."""
    heads = read_names(lines, at, "proc")
    if len(heads) < 2:
        raise InvalidText(at)
    steps, end = read_steps(lines, at + 1)
    results = read_names(lines, end, "give")
    if len(results) != 1:
        raise InvalidText(end)
    return ((heads[0], heads[1:], steps, results[0]), end + 1)


def read_names(lines, at, word):
    """The list of the names behind this word in a line; InvalidText if the line is not there or not of this form."""
    first, *names = lines[at].split(" ") if at < len(lines) else [""]
    if first != word or len(names) == 0 or not all([is_name(name) for name in names]):
        raise InvalidText(at)
    return names


def read_steps(lines, at):
    """The pair of the list of the steps from an index on, and the index of the first line that is no step."""
    steps = []
    for line in lines[at:]:
        step = read_step(line)
        if step is None:
            break
        steps.append(step)
    return (steps, at + len(steps))


def read_step(line):
    """The step of a line, or None if the line is not of the form of a step."""
    target, _, right = line.partition(" = ")
    if not is_name(target):
        return None
    if right.endswith(")"):
        return read_call(target, right[:-1])
    words = right.split(" ")
    if len(words) == 1:
        numbers = read_fraction(right)
        return None if numbers is None else ("constant", target, *numbers)
    if len(words) != 3 or not is_name(words[2]):
        return None
    left, sign, last = words
    if is_name(left):
        return (KINDS[sign], target, left, last) if sign in KINDS else None
    numbers = read_fraction(left)
    return None if numbers is None or sign != "*" else ("share", target, *numbers, last)


def read_call(target, text):
    """The step that calls a procedure, for its text without the last parenthesis, or None."""
    name, _, rest = text.partition("(")
    given = rest.split(", ")
    if not is_name(name) or not all([is_name(word) for word in given]):
        return None
    return ("call", target, name, tuple(given))


def read_fraction(text):
    """The pair (p, q) of a text p or p/q, as it is written, or None."""
    left, stroke, right = text.partition("/")
    p = read_integer(left, MOST_DIGITS)
    q = 1 if stroke == "" else read_digits(right, MOST_DIGITS)
    if p is None or q is None or (stroke != "" and q < 2):
        return None
    return (p, q)
