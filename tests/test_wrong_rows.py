"""Promise [2]: what is handed in as a row and is none is refused with BadRow, ahead of all else."""

import unittest

from sixtyfold.errors import BadRow
from sixtyfold.slips import slips
from sixtyfold.tables import faults, head_of, table
from tests.samples import HIGHEST, LOWEST, TAKERS, wrong_rows

TAKERS_OF_EACH_ROW = (
    "times, one", "times, other", "times, both", "cast", "written", "factors", "part, both", "squared",
    "near_side", "near_side, odd", "slips, due", "slips, due and told", "table", "faults", "faults, told",
)


class WrongRows(unittest.TestCase):

    def test_each_function_refuses_each_wrong_row(self):
        wrong = wrong_rows()
        for name, taker in TAKERS.items():
            for at, bad in enumerate(wrong):
                with self.subTest(name=name, at=at, length=len(bad)):
                    with self.assertRaises(BadRow) as caught:
                        taker(bad)
                    self.assertIs(type(caught.exception), BadRow)

    def test_the_edges_of_what_a_row_is_are_taken(self):
        for good in (LOWEST, (59,), (1, 0, 1), (1,) + (0,) * 10 + (1,), (59,) + (0,) * 10 + (59,), HIGHEST):
            for name in TAKERS_OF_EACH_ROW:
                with self.subTest(name=name, good=good):
                    TAKERS[name](good)

    def test_figures_that_are_told_are_no_rows_and_not_refused(self):
        due = table((7,))
        for told in wrong_rows():
            self.assertIs(type(slips((7,), told)), list)
            self.assertEqual(faults((7,), [told] + due[1:]), [(0, slips((7,), told))])
            self.assertEqual(head_of([told] + due[1:]), ((7,), [(0, slips((7,), told))]))


if __name__ == "__main__":
    unittest.main()
