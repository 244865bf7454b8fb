"""Tables of a head, their faults, and the head that a faulty table may have had."""

from sixtyfold.errors import BadRow
from sixtyfold.rows import is_long_row, is_row, number_of, row_of, whole_of
from sixtyfold.slips import slips_between
from sixtyfold.turning import left_of, parted

MULTIPLES = (1, 2, 3, 4, 5, 6, 7, 8, 9, 10, 11, 12, 13, 14, 15, 16, 17, 18, 19, 20, 30, 40, 50)


def table(head):
    """The 23 rows of a head's table."""
    whole = whole_of(head)
    return [row_of(whole * multiple) for multiple in MULTIPLES]


def faults(head, rows):
    """Which of the told rows are not the due ones, each with the slips that make it."""
    found = []
    for number, (due, told) in enumerate(zip(table(head), rows)):
        if told != due:
            found.append((number, slips_between(due, told)))
    return found


def head_of(rows):
    """The head by which the fewest of the told rows are faults, and these faults."""
    heads = heads_behind(rows)
    if not heads:
        raise BadRow("none of the rows can come of a head")
    counted = [(len(faults(one, rows)), one) for one in heads]
    _, head = min(counted)
    return head, faults(head, rows)


def heads_behind(rows):
    """The heads that some of the told rows come of if they are right, each head once."""
    heads = {}
    for multiple, told in zip(MULTIPLES, rows):
        # A right row may be longer than 12 figures, though its head is not.
        if is_long_row(told) and number_of(told) % left_of(multiple) == 0:
            quotient, _ = parted(number_of(told), multiple)
            head = row_of(quotient)
            if is_row(head):
                heads[head] = True
    return list(heads)
