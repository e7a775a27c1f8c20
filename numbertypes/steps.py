"""Steps of programs: whether they are right, what they make, and their lines."""

from numbertypes.forms import Form
from numbertypes.integers import is_between, is_int, is_name, written_share

MOST_DIVISOR = 999
SIGNS = {"add": "+", "subtract": "-", "multiply": "*"}


def are_names(value, most):
    """Whether any value is a list of 1 to so many different names."""
    if not isinstance(value, (list, tuple)) or not 1 <= len(value) <= most:
        return False
    return all([is_name(name) for name in value]) and len(set(value)) == len(value)


def is_known(value, known):
    """Whether any value is one of the known names."""
    return is_name(value) and value in known


def are_known(value, known, most):
    """Whether any value is a list of 1 to so many known names, which may come several times."""
    if not isinstance(value, (list, tuple)) or not 1 <= len(value) <= most:
        return False
    return all([is_known(name, known) for name in value])


def is_step(step, known, counts):
    """Whether any value is a step behind which its target may stand, if the target is a new name.

    The counts tell how many arguments the procedures take that can be called.
    """
    if not isinstance(step, tuple):
        return False
    if len(step) == 5 and step[0] == "share":
        return is_int(step[2]) and is_between(step[3], 1, MOST_DIVISOR) and is_known(step[4], known)
    if len(step) != 4:
        return False
    if step[0] in ("add", "subtract", "multiply"):
        return is_known(step[2], known) and is_known(step[3], known)
    if step[0] == "constant":
        return is_int(step[2]) and is_between(step[3], 1, MOST_DIVISOR)
    return step[0] == "call" and is_call(step[2], step[3], known, counts)


def is_call(word, given, known, counts):
    """Whether any two values are the name of a procedure that can be called and as many known names as it takes."""
    if not is_known(word, counts) or not isinstance(given, tuple) or len(given) != counts[word]:
        return False
    return all([is_known(name, known) for name in given])


def first_wrong_step(steps, most, first_names, barred, counts):
    """The index of the first wrong step, the most if only those behind so many steps are wrong, or None.

    The first names are the inputs or parameters; the barred names are no targets.
    """
    known = {name: True for name in first_names}
    for at, step in enumerate(steps):
        if at == most or not is_step(step, known, counts):
            return at
        target = step[1]
        if not is_name(target) or target in known or target in barred:
            return at
        known[target] = True
    return None


def form_made(step, forms):
    """The form of an executed step, which has the places of forms instead of names."""
    kind = step[0]
    if kind == "add":
        return forms[step[1]] + forms[step[2]]
    if kind == "subtract":
        return forms[step[1]] - forms[step[2]]
    if kind == "multiply":
        return forms[step[1]] * forms[step[2]]
    if kind == "share":
        return forms[step[3]].scaled(step[1], step[2])
    return Form([((), step[1], step[2])])


def thing_made(step, things, ring):
    """The thing of an executed step, which has the places of things instead of names."""
    kind = step[0]
    if kind == "add":
        return ring._plus(things[step[1]], things[step[2]])
    if kind == "subtract":
        return ring._minus(things[step[1]], things[step[2]])
    if kind == "multiply":
        return ring._product(things[step[1]], things[step[2]])
    if kind == "share":
        return ring._scaled(step[1], step[2], things[step[3]])
    return ring._share(step[1], step[2])


def placed(step, places):
    """The executed step of a step that is no call: without its target, and with the places of names instead of them."""
    kind = step[0]
    if kind == "share":
        return (kind, step[2], step[3], places[step[4]])
    if kind == "constant":
        return (kind, step[2], step[3])
    return (kind, places[step[2]], places[step[3]])


def named(step, target, names):
    """The step with a target that has this executed step, for a list of the names of all places."""
    kind = step[0]
    if kind == "share":
        return (kind, target, step[1], step[2], names[step[3]])
    if kind == "constant":
        return (kind, target, step[1], step[2])
    return (kind, target, names[step[1]], names[step[2]])


def step_line(step):
    """The line of a step, without its line feed."""
    kind, target = step[0], step[1]
    if kind == "share":
        return f"{target} = {written_share(step[2], step[3])} * {step[4]}"
    if kind == "constant":
        return f"{target} = {written_share(step[2], step[3])}"
    if kind == "call":
        return f"{target} = {step[2]}(" + ", ".join(step[3]) + ")"
    return f"{target} = {step[2]} {SIGNS[kind]} {step[3]}"
