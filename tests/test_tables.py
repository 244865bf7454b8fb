"""Promises [11] and [12]: tables, their faults and their heads."""

import unittest

from sixtyfold.errors import BadRow
from sixtyfold.rows import times
from sixtyfold.slips import slips
from sixtyfold.tables import faults, head_of, table
from tests.samples import HIGHEST, LOWEST, row, some_rows, whole

MULTIPLES = list(range(1, 21)) + [30, 40, 50]
NOT_ROWS = ((), (0,), (0, 7), (7, 0), (60,), (-1,), (7, 60, 7), (0,) * 12)


def due_table(head):
    """What promise [11] says of a head."""
    return [row(whole(head) * multiple) for multiple in MULTIPLES]


def spoiled(rows, changes):
    """A table with other figures at some numbers."""
    return [changes.get(number, told) for number, told in enumerate(rows)]


def could_be(told):
    """Whether figures are a row of any length."""
    return bool(told) and all(0 <= figure <= 59 for figure in told) and told[0] != 0 and told[-1] != 0


def due_head(rows):
    """What promise [12] says of told rows: the head, or None where there is none."""
    heads = set()
    for multiple, told in zip(MULTIPLES, rows):
        if could_be(told):
            # 7, 11, 13, 17 and 19 alone do not go into some number of sixties.
            parted, rest = divmod(whole(told) * 60 ** 4, multiple)
            if rest == 0 and len(row(parted)) <= 12:
                heads.add(row(parted))
    if not heads:
        return None
    counted = [(sum(due != told for due, told in zip(due_table(head), rows)), head) for head in heads]
    return min(counted)[1]


class Table(unittest.TestCase):

    def test_the_table_of_one(self):
        self.assertEqual(table((1,)), [(multiple,) for multiple in MULTIPLES])

    def test_the_table_of_seven_thirty(self):
        self.assertEqual(table((7, 30)), [
            (7, 30), (15,), (22, 30), (30,), (37, 30), (45,), (52, 30), (1,), (1, 7, 30), (1, 15), (1, 22, 30),
            (1, 30), (1, 37, 30), (1, 45), (1, 52, 30), (2,), (2, 7, 30), (2, 15), (2, 22, 30), (2, 30),
            (3, 45), (5,), (6, 15)])

    def test_23_rows(self):
        for head in some_rows(12):
            self.assertEqual(len(table(head)), 23)

    def test_each_row_is_the_head_times_its_number(self):
        for head in some_rows(12) + [LOWEST, (59,), (1, 0, 1)]:
            self.assertEqual(table(head), due_table(head))
            self.assertEqual(table(head), [times(head, (multiple,)) for multiple in MULTIPLES])

    def test_rows_longer_than_twelve_figures(self):
        told = table(HIGHEST)
        self.assertEqual(told[0], HIGHEST)
        self.assertEqual(told[1], (1,) + (59,) * 11 + (58,))
        self.assertEqual([len(due) for due in told], [12] + [13] * 22)
        self.assertEqual(told, due_table(HIGHEST))

    def test_a_wrong_head_is_refused(self):
        for head in NOT_ROWS + ((1,) * 13,):
            with self.assertRaises(BadRow):
                table(head)

    def test_kinds(self):
        told = table((7,))
        self.assertIs(type(told), list)
        self.assertEqual({type(due) for due in told}, {tuple})

    def test_argument_by_name(self):
        self.assertEqual(table(head=(30,))[:3], [(30,), (1,), (1, 30)])


class Faults(unittest.TestCase):

    def test_none(self):
        for head in some_rows(12):
            self.assertEqual(faults(head, table(head)), [])

    def test_one(self):
        due = table((7, 30))
        self.assertEqual(faults((7, 30), spoiled(due, {0: (7, 31)})), [(0, [("figure", 1)])])
        self.assertEqual(faults((7, 30), spoiled(due, {22: (15, 6)})), [(22, [("swapped", 0)])])
        self.assertEqual(faults((7, 30), spoiled(due, {8: (8, 30)})), [(8, [("joined", 0)])])
        self.assertEqual(faults((7, 30), spoiled(due, {10: (1, 22)})), [(10, [("left", 2)])])
        self.assertEqual(faults((7, 30), spoiled(due, {1: (15, 15)})), [(1, [("twice", 0)])])

    def test_one_that_no_slip_makes(self):
        due = table((7, 30))
        self.assertEqual(faults((7, 30), spoiled(due, {5: (44, 59)})), [(5, [])])

    def test_one_by_several_slips(self):
        due = table((1, 0, 5))
        self.assertEqual(faults((1, 0, 5), spoiled(due, {0: (1, 5)})), [
            (0, [("left", 1), ("joined", 0), ("joined", 1)])])

    def test_told_figures_that_are_no_rows(self):
        due = table((7,))
        self.assertEqual(faults((7,), spoiled(due, {0: (), 1: (0,), 2: (60,), 3: (-5,), 4: (35, 0), 8: (3, 1)})), [
            (0, [("left", 0)]), (1, [("figure", 0)]), (2, [("figure", 0)]), (3, [("figure", 0)]), (4, []),
            (8, [("swapped", 0)])])

    def test_twenty_three(self):
        told = faults((7, 30), [()] * 23)
        self.assertEqual([number for number, _ in told], list(range(23)))
        self.assertEqual([made for _, made in told], [
            [("left", 0)] if len(due) == 1 else [] for due in table((7, 30))])
        self.assertEqual(len(faults((1,), table((1, 1)))), 23)

    def test_eleven(self):
        due = table((7, 30))
        changes = {number: due[number] + due[number][-1:] for number in range(0, 22, 2)}
        self.assertEqual(faults((7, 30), spoiled(due, changes)), [
            (number, [("twice", len(due[number]) - 1)]) for number in range(0, 22, 2)])

    def test_due_rows_longer_than_twelve_figures(self):
        due = table(HIGHEST)
        self.assertEqual(faults(HIGHEST, spoiled(due, {1: due[1][1:]})), [(1, [("left", 0)])])
        self.assertEqual(faults(HIGHEST, spoiled(due, {1: due[1][:-1]})), [(1, [("left", 12)])])
        self.assertEqual(faults(HIGHEST, spoiled(due, {1: due[1][:-1] + (57,)})), [(1, [("figure", 12)])])
        self.assertEqual(faults(HIGHEST, spoiled(due, {1: due[1][:11] + (58, 59)})), [(1, [("swapped", 11)])])
        self.assertEqual(faults(HIGHEST, spoiled(due, {1: due[1] + (58,)})), [(1, [("twice", 12)])])
        self.assertEqual(faults(HIGHEST, spoiled(due, {0: HIGHEST + (59,)})), [(0, [("twice", k) for k in range(12)])])

    def test_slips_are_those_of_the_due_row(self):
        one, other = table((1, 12)), table((1, 13))
        told = faults((1, 12), other)
        self.assertEqual(told, [(number, slips(one[number], other[number])) for number in range(23)])
        self.assertEqual(told[0], (0, [("figure", 1)]))

    def test_a_wrong_head_is_refused_whatever_is_told(self):
        for head in NOT_ROWS + ((1,) * 13,):
            for rows in (table((1,)), [()] * 23, []):
                with self.assertRaises(BadRow):
                    faults(head, rows)

    def test_kinds(self):
        told = faults((7,), [()] * 23)
        self.assertIs(type(told), list)
        self.assertEqual({type(fault) for fault in told}, {tuple})
        self.assertEqual({type(made) for _, made in told}, {list})

    def test_somewhat_beyond_the_limits_no_error_comes(self):
        due = table((7,))
        self.assertEqual(faults((7,), due[:20]), [])
        self.assertEqual(faults((7,), due + [(1,)]), [])

    def test_arguments_by_name(self):
        self.assertEqual(faults(head=(7,), rows=table((7,))), [])


class HeadOf(unittest.TestCase):

    def assert_none(self, rows):
        self.assertIsNone(due_head(rows))
        with self.assertRaises(BadRow) as caught:
            head_of(rows)
        self.assertIs(type(caught.exception), BadRow)

    def test_no_fault(self):
        for head in some_rows(12) + [LOWEST, (59,), (1, 0, 1), HIGHEST]:
            self.assertEqual(head_of(table(head)), (head, []))

    def test_one_fault_at_each_number(self):
        for head in ((7,), (7, 30), (1, 17), HIGHEST, (1,) + (0,) * 10 + (7,)):
            for number in range(23):
                for told in ((), (1,), (0, 5), (60,), (59,) * 12, (59,) * 13, (2, 3, 4)):
                    rows = spoiled(table(head), {number: told})
                    if rows[number] != table(head)[number]:
                        self.assertEqual(head_of(rows), (head, [(number, slips_of(head, number, told))]))

    def test_eleven_faults(self):
        for head in ((7,), (7, 30), HIGHEST):
            due, other = table(head), table((1, 1))
            for start in (0, 5, 12):
                rows = spoiled(due, {number: other[number] for number in range(start, start + 11)})
                self.assertEqual(head_of(rows)[0], head)
                self.assertEqual([number for number, _ in head_of(rows)[1]], list(range(start, start + 11)))

    def test_twelve_right_ones_that_other_heads_do_not_outweigh(self):
        # Eleven rows of the one table and twelve of the other.
        one, other = table((7, 30)), table((7, 31))
        for first in (0, 1):
            rows = [(one, other)[(number + first) % 2][number] for number in range(23)]
            due = (7, 30) if first == 0 else (7, 31)
            self.assertEqual(head_of(rows)[0], due)
            self.assertEqual(head_of(rows)[1], faults(due, rows))
            self.assertEqual(len(head_of(rows)[1]), 11)

    def test_told_rows_longer_than_twelve_figures_count(self):
        # Only the first row of this table has no more than twelve figures.
        rows = spoiled(table(HIGHEST), {0: (7,)})
        self.assertEqual(head_of(rows), (HIGHEST, [(0, [])]))
        rows = spoiled([()] * 23, {20: table(HIGHEST)[20]})
        self.assertEqual(head_of(rows)[0], HIGHEST)

    def test_heads_of_more_than_twelve_figures_do_not_count(self):
        self.assert_none(spoiled([()] * 23, {0: (1,) * 13}))
        self.assert_none(spoiled([()] * 23, {0: (1,) * 13, 1: (59,) * 14, 22: (7,) * 40}))
        # An eighth of this is a figure longer than itself, a half of the next one is not.
        self.assert_none(spoiled([()] * 23, {7: (1,) + (0,) * 10 + (1,)}))
        self.assertEqual(head_of(spoiled([()] * 23, {1: (2,) + (0,) * 10 + (2,)}))[0], (1,) + (0,) * 10 + (1,))
        self.assertEqual(head_of(spoiled([()] * 23, {0: (1,) * 13, 5: (6,)}))[0], (1,))

    def test_rows_that_do_not_part_by_their_number(self):
        self.assert_none(spoiled([()] * 23, {6: (1,)}))
        self.assert_none(spoiled([()] * 23, {6: (1,), 10: (7,), 12: (11,), 13: (6,), 16: (13,), 18: (17,)}))
        self.assertEqual(head_of(spoiled([()] * 23, {6: (1,), 13: (7,)}))[0], (30,))
        self.assertEqual(head_of(spoiled([()] * 23, {6: (14,)}))[0], (2,))

    def test_nothing_that_a_head_could_come_of(self):
        self.assert_none([()] * 23)
        for told in NOT_ROWS:
            self.assert_none([told] * 23)
        self.assert_none([NOT_ROWS[number % len(NOT_ROWS)] for number in range(23)])

    def test_what_is_no_row_is_passed_over(self):
        for told in NOT_ROWS:
            rows = spoiled([told] * 23, {22: (50,)})
            self.assertEqual(head_of(rows), ((1,), faults((1,), rows)))
            self.assertEqual(len(head_of(rows)[1]), 22)

    def test_of_equally_few_faults_the_least_tuple_is_told(self):
        # The 3 stands for the head 3, the 2 at number 1 for the head 1.
        self.assertEqual(head_of(spoiled([()] * 23, {0: (3,), 1: (2,)}))[0], (1,))
        self.assertEqual(head_of(spoiled([()] * 23, {0: (1,), 1: (6,)}))[0], (1,))
        # As tuples (1, 59) is less than (2,), and (1,) less than (1, 0, 1).
        self.assertEqual(head_of(spoiled([()] * 23, {0: (2,), 1: (3, 58)}))[0], (1, 59))
        self.assertEqual(head_of(spoiled([()] * 23, {0: (1, 0, 1), 1: (2,)}))[0], (1,))
        one, other = table((5,)), table((4, 59))
        rows = [()] + [(one, other)[number % 2][number] for number in range(1, 23)]
        self.assertEqual(head_of(rows), ((4, 59), faults((4, 59), rows)))
        self.assertEqual(len(faults((5,), rows)), len(faults((4, 59), rows)))

    def test_fewer_faults_go_ahead_of_the_least_tuple(self):
        rows = spoiled([()] * 23, {0: (1,), 1: (6,), 2: (9,)})
        self.assertEqual(head_of(rows), ((3,), faults((3,), rows)))

    def test_many_tables(self):
        rows = some_rows(12)
        for at, head in enumerate(rows[::3]):
            told = table(head)
            for number in range(at % 3, 23, 2 + at % 4):
                told[number] = rows[(at * 7 + number) % len(rows)]
            due = due_head(told)
            self.assertEqual(head_of(told), (due, faults(due, told)))

    def test_kinds(self):
        told = head_of(spoiled(table((7,)), {3: ()}))
        self.assertIs(type(told), tuple)
        self.assertEqual([type(item) for item in told], [tuple, list])

    def test_somewhat_beyond_the_limits_no_error_comes(self):
        self.assertEqual(head_of(table((7,))[:20]), ((7,), []))
        self.assertEqual(head_of(table((7,)) + [(1,)]), ((7,), []))

    def test_argument_by_name(self):
        self.assertEqual(head_of(rows=table((7,))), ((7,), []))


def slips_of(head, number, told):
    """The slips that make the told figures of a due row, which may be too long to be handed in."""
    due = table(head)[number]
    if len(due) <= 12:
        return slips(due, told)
    return [("left", k) for k in range(len(due)) if due[:k] + due[k + 1:] == told] + (
        [("figure", k) for k in range(len(due)) if len(told) == len(due)
         and [at for at in range(len(due)) if due[at] != told[at]] == [k]])


if __name__ == "__main__":
    unittest.main()
