"""Problems: which sizes of the given numbers let each step be done, and what a number is by them."""

from sixtyfold.errors import BadStep
from sixtyfold.rows import row_of, whole_of
from sixtyfold.sized import come_to, rank_of
from sixtyfold.steps import MOST_SIZE, check_problem


def ways(problem):
    """All ways to size the given numbers, each a dict from all names to sized numbers."""
    check_problem(problem)
    found, _ = sizings(problem)
    rows = rows_of(found)
    return [told_way(way, rows) for way in found]


def answers(problem, name):
    """What a number is by all ways, or the step at which no way is left."""
    names = check_problem(problem)
    if name not in names:
        raise BadStep(len(problem), "name")
    found, done = sizings(problem)
    if not found:
        return "none", done
    numbers = rising(list({way[name]: True for way in found}))
    if len(numbers) == 1:
        return "one", numbers[0]
    return "sizes", numbers


def sizings(problem):
    """All ways, with (whole, size) for each name, and how many steps could be done."""
    found = [{}]
    for at, step in enumerate(problem):
        found = ways_behind(step, found)
        if not found:
            return [], at
    return found, len(problem)


def ways_behind(step, found):
    """Those of the ways by which this step can be done, with its name."""
    word = step[0]
    name = step[1]
    if word == "given":
        whole = whole_of(step[2])
        # The earlier given sizes stay in order, the new one rises within them.
        return [{**way, name: (whole, size)} for way in found for size in range(-MOST_SIZE, MOST_SIZE + 1)]
    if word == "bound":
        return within(found, name, step[2], step[3])
    kept = []
    for way in found:
        number = come_to(word, [way[other] for other in step[2:]])
        if number is not None:
            kept.append({**way, name: number})
    return kept


def within(found, name, least, most):
    """Those of the ways by which a number keeps its bounds."""
    kept = list(found)
    if least is not None:
        low = rank_of_bound(least)
        kept = [way for way in kept if low <= rank_of(way[name])]
    if most is not None:
        high = rank_of_bound(most)
        kept = [way for way in kept if rank_of(way[name]) <= high]
    return kept


def rank_of_bound(bound):
    """The rank of one side of a bound."""
    row, size = bound
    return rank_of((whole_of(row), size))


def rows_of(found):
    """The row of each whole in the ways; most wholes stand in many, and a long row takes long to make."""
    rows = {}
    for way in found:
        for whole, _ in way.values():
            if whole not in rows:
                rows[whole] = row_of(whole)
    return rows


def told_way(way, rows):
    """A way with the rows of its wholes."""
    return {name: (rows[whole], size) for name, (whole, size) in way.items()}


def rising(numbers):
    """The sized numbers, from (whole, size), in the order of what they are."""
    ranks = sorted([rank_of(number) for number in numbers])
    return [(row, place - len(row)) for place, row in ranks]
