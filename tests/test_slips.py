"""Promise [10]: scribes' slips."""

import unittest

from sixtyfold.errors import BadRow
from sixtyfold.slips import slips
from tests.samples import HIGHEST, some_rows

TWELVE = (1, 2, 4, 8, 16, 32, 5, 10, 20, 40, 21, 43)


def made(row):
    """Each slip of a row but the sort "figure", with the figures that it makes, in the order of the promise."""
    places = range(len(row))
    pairs = range(len(row) - 1)
    found = [(("left", k), row[:k] + row[k + 1:]) for k in places]
    found += [(("twice", k), row[:k] + (row[k], row[k]) + row[k + 1:]) for k in places]
    found += [(("joined", k), row[:k] + (row[k] + row[k + 1],) + row[k + 2:])
              for k in pairs if row[k] + row[k + 1] < 60]
    found += [(("swapped", k), row[:k] + (row[k + 1], row[k]) + row[k + 2:])
              for k in pairs if row[k] != row[k + 1]]
    return found


def due_slips(row, told):
    """What promise [10] says of a row and figures told."""
    figures = [("figure", k) for k in range(len(row))
               if len(told) == len(row) and [at for at in range(len(row)) if row[at] != told[at]] == [k]]
    return figures + [slip for slip, figures in made(row) if figures == told]


class Slips(unittest.TestCase):

    def test_figure(self):
        self.assertEqual(slips((7,), (8,)), [("figure", 0)])
        self.assertEqual(slips((1, 24, 51, 10), (2, 24, 51, 10)), [("figure", 0)])
        self.assertEqual(slips((1, 24, 51, 10), (1, 24, 50, 10)), [("figure", 2)])
        self.assertEqual(slips((1, 24, 51, 10), (1, 24, 51, 0)), [("figure", 3)])
        self.assertEqual(slips((1, 24, 51, 10), (0, 24, 51, 10)), [("figure", 0)])

    def test_left(self):
        self.assertEqual(slips((7,), ()), [("left", 0)])
        self.assertEqual(slips((1, 24, 51, 10), (24, 51, 10)), [("left", 0)])
        self.assertEqual(slips((1, 24, 51, 10), (1, 24, 10)), [("left", 2)])
        self.assertEqual(slips((1, 24, 51, 10), (1, 24, 51)), [("left", 3)])

    def test_twice(self):
        self.assertEqual(slips((7,), (7, 7)), [("twice", 0)])
        self.assertEqual(slips((1, 24, 51, 10), (1, 1, 24, 51, 10)), [("twice", 0)])
        self.assertEqual(slips((1, 24, 51, 10), (1, 24, 24, 51, 10)), [("twice", 1)])
        self.assertEqual(slips((1, 24, 51, 10), (1, 24, 51, 10, 10)), [("twice", 3)])

    def test_joined(self):
        self.assertEqual(slips((1, 24, 11, 10), (25, 11, 10)), [("joined", 0)])
        self.assertEqual(slips((1, 24, 11, 10), (1, 35, 10)), [("joined", 1)])
        self.assertEqual(slips((1, 24, 11, 10), (1, 24, 21)), [("joined", 2)])

    def test_swapped(self):
        self.assertEqual(slips((1, 24, 51, 10), (24, 1, 51, 10)), [("swapped", 0)])
        self.assertEqual(slips((1, 24, 51, 10), (1, 51, 24, 10)), [("swapped", 1)])
        self.assertEqual(slips((1, 24, 51, 10), (1, 24, 10, 51)), [("swapped", 2)])
        self.assertEqual(slips((1, 0, 5), (0, 1, 5)), [("swapped", 0)])

    def test_each_sort_at_each_place(self):
        for row in ((1,), (59,), (3, 9), TWELVE, HIGHEST):
            for slip, told in made(row):
                with self.subTest(row=row, slip=slip):
                    self.assertIn(slip, slips(row, told))
                    self.assertEqual(slips(row, told), due_slips(row, told))
            for place in range(len(row)):
                for figure in range(60):
                    told = row[:place] + (figure,) + row[place + 1:]
                    due = [] if figure == row[place] else [("figure", place)]
                    self.assertEqual(slips(row, told), due)

    def test_the_last_figure_has_no_next_one(self):
        # Neither the end nor the first figure is the next one of the last.
        self.assertEqual(slips((5, 7, 9), (14, 7)), [])
        self.assertEqual(slips((5, 7, 9), (9, 7, 5)), [])
        self.assertEqual(slips((5, 5), (10,)), [("joined", 0)])
        self.assertEqual(slips((5,), (5,)), [])
        self.assertEqual(slips((5,), (10,)), [("figure", 0)])

    def test_a_sum_of_59_and_one_of_60(self):
        self.assertEqual(slips((29, 30), (59,)), [("joined", 0)])
        self.assertEqual(slips((30, 30), (60,)), [])
        self.assertEqual(slips((30, 30), (1,)), [])
        self.assertEqual(slips((7, 58, 1, 7), (7, 59, 7)), [("joined", 1)])
        self.assertEqual(slips((7, 58, 2, 7), (7, 60, 7)), [])
        self.assertEqual(slips((7, 59, 59), (7, 118)), [])

    def test_two_figures_alike_are_not_swapped(self):
        self.assertEqual(slips((4, 4), (4, 4)), [])
        self.assertEqual(slips((1, 4, 4, 9), (1, 4, 4, 9)), [])
        self.assertEqual(slips((1, 4, 4, 9), (1, 4, 9, 4)), [("swapped", 2)])

    def test_alike_figures_lead_to_the_same_by_several_places(self):
        self.assertEqual(slips((4, 4), (4,)), [("left", 0), ("left", 1)])
        self.assertEqual(slips((4, 4), (4, 4, 4)), [("twice", 0), ("twice", 1)])
        self.assertEqual(slips((1, 7, 7, 7, 2), (1, 7, 7, 2)), [("left", 1), ("left", 2), ("left", 3)])
        self.assertEqual(slips((1, 7, 7, 7, 2), (1, 7, 7, 7, 7, 2)), [("twice", 1), ("twice", 2), ("twice", 3)])
        self.assertEqual(slips(HIGHEST, HIGHEST[1:]), [("left", k) for k in range(12)])
        self.assertEqual(slips(HIGHEST, (59,) * 13), [("twice", k) for k in range(12)])

    def test_several_sorts_lead_to_the_same_figures(self):
        self.assertEqual(slips((1, 0, 5), (1, 5)), [("left", 1), ("joined", 0), ("joined", 1)])
        self.assertEqual(slips((1, 0, 0, 5), (1, 0, 5)), [
            ("left", 1), ("left", 2), ("joined", 0), ("joined", 1), ("joined", 2)])
        self.assertEqual(slips((3, 0, 3), (3, 3)), [("left", 1), ("joined", 0), ("joined", 1)])
        self.assertEqual(slips((3, 3, 0, 6), (3, 3, 6)), [("left", 2), ("joined", 1), ("joined", 2)])

    def test_the_row_itself(self):
        for row in some_rows(12):
            self.assertEqual(slips(row, row), [])

    def test_figures_that_no_single_slip_makes(self):
        row = (1, 24, 51, 10)
        for told in ((), (1,), (1, 24), (10, 51, 24, 1), (2, 25, 51, 10), (51, 24, 1, 10), (24, 1, 10, 51),
                     (1, 24, 51, 10, 1), (1, 24, 51, 10, 0), (1, 1, 24, 24, 51, 10), (75, 10), (25, 61),
                     (1, 24, 51, 10) * 2, (59,) * 40):
            with self.subTest(told=told):
                self.assertEqual(slips(row, told), [])
        self.assertEqual(slips((7,), (7, 7, 7)), [])
        self.assertEqual(slips((7, 8), ()), [])

    def test_told_figures_need_not_be_a_row(self):
        self.assertEqual(slips((1, 0, 5), (0, 5)), [("left", 0)])
        self.assertEqual(slips((5, 0, 1), (5, 0)), [("left", 2)])
        self.assertEqual(slips((5, 0, 1), (5, 1, 0)), [("swapped", 1)])
        self.assertEqual(slips((7,), (0,)), [("figure", 0)])

    def test_told_figures_below_0_or_above_59(self):
        for figure in (-1, -60, 60, 61, 3600, 10 ** 5000):
            self.assertEqual(slips((7,), (figure,)), [("figure", 0)])
            self.assertEqual(slips((1, 24, 51), (1, figure, 51)), [("figure", 1)])
            self.assertEqual(slips((1, 24, 51), (figure,)), [])
            self.assertEqual(slips((1, 24, 51), (1, 24, 51, figure)), [])
            self.assertEqual(slips((1, 24, 51), (figure, figure, 51)), [])

    def test_told_figures_of_thirteen(self):
        for k in range(12):
            self.assertEqual(slips(TWELVE, TWELVE[:k] + TWELVE[k:k + 1] + TWELVE[k:]), [("twice", k)])

    def test_many_rows(self):
        rows = some_rows(12) + [(1, 0, 0, 1), (1, 1, 2), (2, 1, 1), (1, 2, 1, 2), (30, 30, 30), (1, 58, 1, 58)]
        for row in rows:
            for slip, told in made(row):
                self.assertIn(slip, slips(row, told))
                self.assertEqual(slips(row, told), due_slips(row, told))
            for other in rows:
                self.assertEqual(slips(row, other), due_slips(row, other))

    def test_short_rows_and_all_short_figures(self):
        figures = [()]
        for _ in range(3):
            figures += [one + (figure,) for one in figures for figure in (0, 1, 2, 3)]
        figures = sorted(set(figures))
        for row in figures:
            if row and row[0] and row[-1]:
                for told in figures:
                    self.assertEqual(slips(row, told), due_slips(row, told))

    def test_a_wrong_due_row_is_refused_whatever_is_told(self):
        for due in ((), (0,), (0, 1), (1, 0), (60,), (-1,), (1, 60, 1), (1,) * 13):
            for told in ((), (1,), due, (1,) * 13):
                with self.assertRaises(BadRow):
                    slips(due, told)

    def test_a_list_of_tuples(self):
        told = slips((1, 0, 5), (1, 5))
        self.assertIs(type(told), list)
        self.assertEqual([type(slip) for slip in told], [tuple] * 3)

    def test_arguments_by_name(self):
        self.assertEqual(slips(due=(1, 2), told=(2, 1)), [("swapped", 0)])


if __name__ == "__main__":
    unittest.main()
