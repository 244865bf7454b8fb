"""Promises [5], [6] and [7]: factors, parts and turned numbers."""

import unittest

from sixtyfold.errors import BadRow, NotTurned
from sixtyfold.turning import factors, part, turnables, turned
from tests.samples import HIGHEST, LOWEST, left_of, row, small_numbers, some_rows, whole


def outcome(one, other):
    """The part of two rows, or the left that its refusal tells."""
    try:
        return part(one, other)
    except NotTurned as refusal:
        return refusal.left


def due_outcome(one, other):
    """What promise [6] says of the same."""
    number, left = whole(one), left_of(whole(other))
    if number % left == 0:
        return row(number * 60 ** 80 // whole(other))
    for common in range(left, 0, -1):
        if left % common == 0 and number % common == 0:
            return left // common


class Factors(unittest.TestCase):

    def test_ordinary_rows(self):
        self.assertEqual(factors((1,)), ((0, 0, 0), 1))
        self.assertEqual(factors((2,)), ((1, 0, 0), 1))
        self.assertEqual(factors((3,)), ((0, 1, 0), 1))
        self.assertEqual(factors((5,)), ((0, 0, 1), 1))
        self.assertEqual(factors((7,)), ((0, 0, 0), 7))
        self.assertEqual(factors((1, 30)), ((1, 2, 1), 1))
        self.assertEqual(factors((10, 30)), ((1, 2, 1), 7))
        self.assertEqual(factors((1, 17)), ((0, 0, 0), 77))
        self.assertEqual(factors((1, 0, 1)), ((0, 0, 0), 3601))

    def test_rows_of_twelve_figures(self):
        self.assertEqual(factors(row(2 ** 70)), ((70, 0, 0), 1))
        self.assertEqual(factors(row(3 ** 44)), ((0, 44, 0), 1))
        self.assertEqual(factors(row(5 ** 30)), ((0, 0, 30), 1))
        (twos, threes, fives), left = factors(HIGHEST)
        self.assertEqual((twos, left % 2 * left % 3 * left % 5 != 0), (0, True))
        self.assertEqual(3 ** threes * 5 ** fives * left, 60 ** 12 - 1)

    def test_made_of_their_factors(self):
        for twos in range(6):
            for threes in range(5):
                for fives in range(5):
                    for left in (1, 7, 49, 77, 3601):
                        number = 2 ** twos * 3 ** threes * 5 ** fives * left
                        if number % 60 != 0:
                            self.assertEqual(factors(row(number)), ((twos, threes, fives), left))

    def test_factors_are_a_tuple_in_a_tuple(self):
        told = factors((6,))
        self.assertIs(type(told), tuple)
        self.assertIs(type(told[0]), tuple)

    def test_argument_by_name(self):
        self.assertEqual(factors(row=(6,)), ((1, 1, 0), 1))


class Part(unittest.TestCase):

    def test_other_without_a_left(self):
        self.assertEqual(part((1,), (2,)), (30,))
        self.assertEqual(part((2,), (3,)), (40,))
        self.assertEqual(part((7,), (9,)), (46, 40))
        self.assertEqual(part((6,), (2,)), (3,))
        self.assertEqual(part((1, 30), (1, 30)), (1,))
        self.assertEqual(part((1,), (1, 21)), (44, 26, 40))

    def test_the_others_left_goes_into_the_ones_whole(self):
        self.assertEqual(part((7,), (7,)), (1,))
        self.assertEqual(part((21,), (7,)), (3,))
        self.assertEqual(part((7,), (14,)), (30,))
        self.assertEqual(part((49,), (28,)), (1, 45))
        self.assertEqual(part((1, 17), (11,)), (7,))
        self.assertEqual(part((1, 17), (1, 17)), (1,))

    def test_the_others_left_goes_into_the_ones_whole_in_part(self):
        self.assertEqual(outcome((11,), (1, 17)), 7)
        self.assertEqual(outcome((22,), (1, 17)), 7)
        self.assertEqual(outcome((7,), (49,)), 7)
        self.assertEqual(outcome((14,), (49,)), 7)
        self.assertEqual(outcome((7,), (1, 17)), 11)
        self.assertEqual(outcome((35,), (2, 34)), 11)

    def test_the_others_left_does_not_go_into_the_ones_whole_at_all(self):
        self.assertEqual(outcome((1,), (7,)), 7)
        self.assertEqual(outcome((1,), (14,)), 7)
        self.assertEqual(outcome((30,), (42,)), 7)
        self.assertEqual(outcome((11,), (7,)), 7)
        self.assertEqual(outcome((1, 1), (1, 17)), 77)
        self.assertEqual(outcome((1,), (49,)), 49)

    def test_noughts_at_the_end_are_left_out(self):
        self.assertEqual(part((30,), (30,)), (1,))
        self.assertEqual(part((1, 1), (1, 1)), (1,))
        self.assertEqual(part((1,), (1,)), (1,))
        self.assertEqual(part((1, 0, 1), (1, 0, 1)), (1,))

    def test_rows_of_twelve_figures(self):
        self.assertEqual(part(HIGHEST, HIGHEST), (1,))
        self.assertEqual(part(HIGHEST, LOWEST), HIGHEST)
        self.assertEqual(outcome(LOWEST, HIGHEST), factors(HIGHEST)[1])

    def test_part_longer_than_twelve_figures(self):
        self.assertEqual(part((1,), row(2 ** 70)), row(15 ** 35))
        self.assertEqual(len(part((1,), row(2 ** 70))), 24)
        self.assertEqual(part(HIGHEST, (2,)), (29,) + (59,) * 11 + (30,))

    def test_small_numbers(self):
        numbers = small_numbers()
        for one in numbers[::7]:
            for other in numbers[::5]:
                self.assertEqual(outcome(row(one), row(other)), due_outcome(row(one), row(other)))

    def test_what_is_parted_from_a_product_is_the_other_row(self):
        rows = some_rows(6)
        for one in rows[::3]:
            for other in rows[::2]:
                self.assertEqual(part(row(whole(one) * whole(other)), other), one)

    def test_a_wrong_row_goes_ahead_of_not_turned(self):
        for one, other in (((7, 0), (11,)), ((1,), (7, 0)), ((0, 1), (7,)), ((60,), (7,)), ((7,), (77,))):
            with self.assertRaises(BadRow):
                part(one, other)

    def test_arguments_by_name(self):
        self.assertEqual(part(one=(2,), other=(3,)), (40,))


class Turned(unittest.TestCase):

    def test_the_common_table(self):
        due = {
            (1,): (1,), (2,): (30,), (3,): (20,), (4,): (15,), (5,): (12,), (6,): (10,), (8,): (7, 30),
            (9,): (6, 40), (10,): (6,), (12,): (5,), (15,): (4,), (16,): (3, 45), (18,): (3, 20), (20,): (3,),
            (24,): (2, 30), (25,): (2, 24), (27,): (2, 13, 20), (30,): (2,), (32,): (1, 52, 30), (36,): (1, 40),
            (40,): (1, 30), (45,): (1, 20), (48,): (1, 15), (50,): (1, 12), (54,): (1, 6, 40),
            (1, 4): (56, 15), (1, 21): (44, 26, 40),
        }
        for one, other in due.items():
            self.assertEqual(turned(one), other)
            self.assertEqual(turned(other), one)

    def test_rows_that_have_none(self):
        for one, left in (((7,), 7), ((11,), 11), ((14,), 7), ((42,), 7), ((1, 17), 77), ((49,), 49), ((1, 0, 1), 3601)):
            with self.assertRaises(NotTurned) as caught:
                turned(one)
            self.assertEqual(caught.exception.left, left)

    def test_turned_longer_than_twelve_figures(self):
        self.assertEqual(turned(row(3 ** 44)), row(20 ** 44))
        self.assertGreater(len(turned(row(3 ** 44))), 12)

    def test_is_the_part_of_one_and_the_row(self):
        for number in small_numbers():
            self.assertEqual(outcome((1,), row(number)), due_outcome((1,), row(number)))

    def test_argument_by_name(self):
        self.assertEqual(turned(row=(8,)), (7, 30))


class Turnables(unittest.TestCase):

    def due(self, places):
        """All of them, found by trying how often 2, 3 and 5 may go into a number."""
        limit = 60 ** places
        numbers = [2 ** twos * 3 ** threes * 5 ** fives
                   for twos in range(24) for threes in range(16) for fives in range(12)]
        return sorted(row(number) for number in numbers if number < limit and number % 60 != 0)

    def test_one_figure(self):
        self.assertEqual(turnables(1), [(figure,) for figure in (
            1, 2, 3, 4, 5, 6, 8, 9, 10, 12, 15, 16, 18, 20, 24, 25, 27, 30, 32, 36, 40, 45, 48, 50, 54)])

    def test_two_figures(self):
        rows = [(figure,) for figure in range(1, 60)]
        rows += [(high, low) for high in range(1, 60) for low in range(1, 60)]
        self.assertEqual(turnables(2), sorted(one for one in rows if left_of(whole(one)) == 1))

    def test_three_figures(self):
        rows = [row(number) for number in range(1, 60 ** 3) if number % 60 != 0 and left_of(number) == 1]
        self.assertEqual(turnables(3), sorted(rows))
        self.assertIn((1, 0, 45), turnables(3))

    def test_four_figures(self):
        told = turnables(4)
        self.assertEqual(told, self.due(4))
        self.assertEqual(max(map(len, told)), 4)

    def test_rising_as_tuples_are(self):
        for places in (1, 2, 3, 4):
            told = turnables(places)
            self.assertEqual(told, self.due(places))
            self.assertTrue(all(one < other for one, other in zip(told, told[1:])))
        told = turnables(2)
        self.assertLess(told.index((1, 4)), told.index((2,)))

    def test_each_has_a_turned_one(self):
        for places in (1, 2, 3, 4):
            for one in turnables(places):
                self.assertEqual(turned(turned(one)), one)

    def test_a_list_of_tuples(self):
        told = turnables(2)
        self.assertIs(type(told), list)
        self.assertTrue(all(type(one) is tuple for one in told))

    def test_somewhat_beyond_the_limits_no_error_comes(self):
        self.assertEqual(turnables(0), [])
        self.assertEqual([one for one in turnables(5) if len(one) <= 4], turnables(4))

    def test_argument_by_name(self):
        self.assertEqual(turnables(places=1)[:3], [(1,), (2,), (3,)])


if __name__ == "__main__":
    unittest.main()
