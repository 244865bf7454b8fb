"""Scribes' slips: what could have made other figures of a row."""

from sixtyfold.rows import check_row


def slips(due, told):
    """All single slips that make the told figures of the due row."""
    check_row(due)
    return slips_between(due, told)


def is_other_figure(due, told, at):
    """Whether just the figure at this place is another one."""
    if len(told) != len(due) or told[at] == due[at]:
        return False
    return told[:at] == due[:at] and told[at + 1:] == due[at + 1:]


def is_left_out(due, told, at):
    """Whether the figure at this place is left out."""
    return told == due[:at] + due[at + 1:]


def is_twice(due, told, at):
    """Whether the figure at this place is written twice."""
    return told == due[:at + 1] + due[at:]


def is_joined(due, told, at):
    """Whether the figure at this place and the next one are written as one."""
    pair = due[at:at + 2]
    if len(pair) < 2 or sum(pair) >= 60:
        return False
    return told == due[:at] + (sum(pair),) + due[at + 2:]


def is_swapped(due, told, at):
    """Whether the figure at this place and the next one, unlike, are exchanged."""
    pair = due[at:at + 2]
    if len(pair) < 2 or pair[0] == pair[1]:
        return False
    return told == due[:at] + (pair[1], pair[0]) + due[at + 2:]


# In the order in which slips are told.
SORTS = {
    "figure": is_other_figure,
    "left": is_left_out,
    "twice": is_twice,
    "joined": is_joined,
    "swapped": is_swapped,
}


def slips_between(due, told):
    """The same as slips, of a due row of any length."""
    found = []
    for sort in SORTS:
        is_slip = SORTS[sort]
        for at in range(len(due)):
            if is_slip(due, told, at):
                found.append((sort, at))
    return found
