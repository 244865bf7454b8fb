"""Problems as texts, a line for each step."""

from sixtyfold.errors import BadRow, BadText
from sixtyfold.rows import read, written
from sixtyfold.steps import is_name

# What stands between the two names, or ahead of the one name, that a number is made of.
BETWEEN = {"times": ("times",), "part": ("parted", "by"), "sum": ("and",), "less": ("less",)}
AHEAD = {"square": ("the", "square", "of"), "side": ("the", "side", "of")}

SIZES = ("-6", "-5", "-4", "-3", "-2", "-1", "0", "1", "2", "3", "4", "5", "6")


def problem_text(problem):
    """The text of a problem."""
    return "\n".join([line_of(step) for step in problem])


def problem_of(text):
    """The problem that a text writes."""
    # Split, the empty text would be one empty line.
    if text == "":
        return []
    return [step_of(line, at) for at, line in enumerate(text.split("\n"))]


def line_of(step):
    """The line of a step."""
    word = step[0]
    name = step[1]
    if word == "given":
        words = [name, "is", written(step[2])]
    elif word == "bound":
        words = [name, "from", bound_text(step[2]), "to", bound_text(step[3])]
    elif word in AHEAD:
        words = [name, "is", *AHEAD[word], step[2]]
    else:
        words = [name, "is", step[2], *BETWEEN[word], step[3]]
    return " ".join(words)


def bound_text(bound):
    """The text of one side of a bound."""
    if bound is None:
        return "none"
    row, size = bound
    return f"{written(row)} at {size}"


def step_of(line, at):
    """The step that a line writes by itself; the line's number is for the refusal."""
    words = line.split(" ")
    name = name_of(words[0], at)
    rest = words[2:]
    if words[1:2] == ["is"]:
        return named_step(name, rest, at)
    if words[1:2] == ["from"] and rest.count("to") == 1:
        middle = rest.index("to")
        return ("bound", name, bound_of(rest[:middle], at), bound_of(rest[middle + 1:], at))
    raise BadText(at)


def named_step(name, rest, at):
    """The step that names a number, from the words behind "is"."""
    for word in BETWEEN:
        if tuple(rest[1:-1]) == BETWEEN[word]:
            return (word, name, name_of(rest[0], at), name_of(rest[-1], at))
    for word in AHEAD:
        if tuple(rest[:-1]) == AHEAD[word]:
            return (word, name, name_of(rest[-1], at))
    return ("given", name, row_behind(rest, at))


def bound_of(words, at):
    """One side of a bound, from its words."""
    if words == ["none"]:
        return None
    if words[-2:-1] != ["at"] or words[-1] not in SIZES:
        raise BadText(at)
    return row_behind(words[:-2], at), int(words[-1])


def row_behind(words, at):
    """The row that these words write."""
    try:
        return read(" ".join(words))
    except BadRow:
        raise BadText(at) from None


def name_of(word, at):
    """A word that is a name."""
    if not is_name(word):
        raise BadText(at)
    return word
