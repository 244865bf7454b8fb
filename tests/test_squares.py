"""Promises [8] and [9]: squares, sides and near sides."""

import unittest
from fractions import Fraction

from sixtyfold.errors import BadRow, NoSide
from sixtyfold.rows import times
from sixtyfold.squares import near_side, side, squared
from tests.samples import HIGHEST, LOWEST, left_of, row, small_numbers, some_rows, whole


def outcome(one):
    """The side of a row, or the word that its refusal tells."""
    try:
        return side(one)
    except NoSide as refusal:
        return refusal.why


def often(prime, number):
    """How often a prime goes into a number."""
    many = 0
    while number % prime == 0:
        number //= prime
        many += 1
    return many


def due_outcome(number):
    """What promise [8] says of the row of a number."""
    if often(2, number) % 2 == 1:
        return "two"
    if (often(3, number) + often(5, number)) % 2 == 1:
        return "three"
    left = left_of(number)
    if all(root * root != left for root in range(1, left + 1)):
        return "left"
    for root in range(1, 60 * number + 1):
        if root * root in (number, 60 * number):
            return row(root)


class Squared(unittest.TestCase):

    def test_ordinary_rows(self):
        self.assertEqual(squared((1,)), (1,))
        self.assertEqual(squared((7,)), (49,))
        self.assertEqual(squared((59,)), (58, 1))
        self.assertEqual(squared((1, 1)), (1, 2, 1))
        self.assertEqual(squared((1, 0, 1)), (1, 0, 2, 0, 1))

    def test_noughts_at_the_end_are_left_out(self):
        self.assertEqual(squared((30,)), (15,))
        self.assertEqual(squared((1, 30)), (2, 15))
        self.assertEqual(squared((10,)), (1, 40))

    def test_twelve_figures(self):
        self.assertEqual(squared(HIGHEST), (59,) * 11 + (58,) + (0,) * 11 + (1,))

    def test_is_the_row_times_itself(self):
        for one in some_rows(12):
            self.assertEqual(squared(one), times(one, one))
            self.assertEqual(squared(one), row(whole(one) ** 2))

    def test_argument_by_name(self):
        self.assertEqual(squared(row=(8,)), (1, 4))


class Side(unittest.TestCase):

    def test_squares(self):
        self.assertEqual(side((1,)), (1,))
        self.assertEqual(side((4,)), (2,))
        self.assertEqual(side((9,)), (3,))
        self.assertEqual(side((49,)), (7,))
        self.assertEqual(side((1, 4)), (8,))
        self.assertEqual(side((1, 40)), (10,))
        self.assertEqual(side((1, 2, 1)), (1, 1))

    def test_squares_only_times_sixty(self):
        self.assertEqual(side((15,)), (30,))
        self.assertEqual(side((2, 15)), (1, 30))
        self.assertEqual(side((12, 15)), (3, 30))

    def test_each_square_has_its_row_as_its_side(self):
        for one in some_rows(6):
            self.assertEqual(side(squared(one)), one)

    def test_two(self):
        for number in (2, 8, 18, 32, 50, 98):
            self.assertEqual(outcome(row(number)), "two")

    def test_three(self):
        for number in (3, 5, 12, 20, 27, 45, 75):
            self.assertEqual(outcome(row(number)), "three")

    def test_left(self):
        for number in (7, 11, 28, 77, 105, 343, 3601):
            self.assertEqual(outcome(row(number)), "left")

    def test_the_first_word_of_several(self):
        self.assertEqual(outcome((6,)), "two")
        self.assertEqual(outcome((10,)), "two")
        self.assertEqual(outcome((14,)), "two")
        self.assertEqual(outcome((42,)), "two")
        self.assertEqual(outcome((1, 10)), "two")
        self.assertEqual(outcome((21,)), "three")
        self.assertEqual(outcome((35,)), "three")
        self.assertEqual(outcome((1, 24)), "three")

    def test_small_numbers(self):
        for number in small_numbers():
            self.assertEqual(outcome(row(number)), due_outcome(number))

    def test_rows_of_twelve_figures(self):
        big = row(59 ** 2 * (60 ** 5 + 7) ** 2)
        self.assertEqual(len(big), 12)
        self.assertEqual(side(big), row(59 * (60 ** 5 + 7)))
        self.assertEqual(outcome((1,) + (0,) * 10 + (1,)), "left")
        near = row((60 ** 6 - 1) ** 2 - 12)
        self.assertEqual((len(near), outcome(near)), (12, "left"))

    def test_squares_too_big_for_rough_roots(self):
        root = 7 ** 12
        self.assertEqual(outcome(row(root ** 2)), row(root))
        # Neither 2 nor 3 nor 5 goes into these, so what is left is all of them.
        self.assertEqual(outcome(row(root ** 2 + 6)), "left")
        self.assertEqual(outcome(row(root ** 2 - 12)), "left")

    def test_argument_by_name(self):
        self.assertEqual(side(row=(25,)), (5,))


class NearSide(unittest.TestCase):

    def assert_near(self, one, is_odd, figures):
        """These figures times some sixties are no more than the root, and one more is."""
        number = sum(figure * 60 ** place for place, figure in enumerate(reversed(figures)))
        square = whole(one) * (60 if is_odd else 1)
        fits = [size for size in range(-30, 31)
                if Fraction(3600) ** size * number ** 2 <= square < Fraction(3600) ** size * (number + 1) ** 2]
        self.assertEqual(len(fits), 1, (one, is_odd, figures))
        self.assertNotEqual(figures[0], 0)
        self.assertTrue(all(0 <= figure <= 59 for figure in figures))

    def test_the_root_of_two(self):
        due = (1, 24, 51, 10, 7, 46)
        for places in range(1, 7):
            self.assertEqual(near_side((2,), False, places), due[:places])

    def test_the_root_of_two_sixties(self):
        due = (10, 57, 16, 1, 26, 54)
        for places in range(1, 7):
            self.assertEqual(near_side((2,), True, places), due[:places])

    def test_squares(self):
        self.assertEqual(near_side((49,), False, 1), (7,))
        self.assertEqual(near_side((15,), True, 1), (30,))
        self.assertEqual(near_side((1, 2, 1), False, 2), (1, 1))

    def test_a_square_at_the_one_size_is_none_at_the_other(self):
        self.assertEqual(near_side((4,), True, 3), (15, 29, 30))
        self.assertEqual(near_side((15,), False, 3), (3, 52, 22))
        self.assertEqual(near_side((1,), True, 3), (7, 44, 45))

    def test_noughts_at_the_end_stay(self):
        for places in range(1, 7):
            self.assertEqual(near_side((1,), False, places), (1,) + (0,) * (places - 1))
            self.assertEqual(near_side((4,), False, places), (2,) + (0,) * (places - 1))
            self.assertEqual(near_side((15,), True, places), (30,) + (0,) * (places - 1))
        # The root of 1 0 1 is a little more than 1 0: 1 0 0 29 59 ..
        self.assertEqual(near_side((1, 0, 1), False, 2), (1, 0))
        self.assertEqual(near_side((1, 0, 1), False, 3), (1, 0, 0))
        self.assertEqual(near_side((1, 0, 1), False, 5), (1, 0, 0, 29, 59))

    def test_fewer_figures_than_the_whole_root_has(self):
        self.assertEqual(near_side((1, 2, 1), False, 1), (1,))
        self.assertEqual(near_side(HIGHEST, False, 1), (59,))
        self.assertEqual(near_side(HIGHEST, False, 5), (59,) * 5)
        self.assertEqual(near_side(HIGHEST, True, 2), (7, 44))

    def test_the_rest_is_cut_off_not_rounded(self):
        self.assertEqual(near_side((3, 59), False, 1), (15,))
        self.assertEqual(near_side((1, 3), False, 1), (7,))
        self.assertEqual(near_side((1, 3), False, 2), (7, 56))

    def test_many_roots(self):
        for one in some_rows(12) + [row(number) for number in small_numbers()[::9]] + [LOWEST]:
            for is_odd in (False, True):
                for places in range(1, 7):
                    figures = near_side(one, is_odd, places)
                    self.assertEqual(len(figures), places)
                    self.assert_near(one, is_odd, figures)

    def test_squares_of_rows(self):
        for one in some_rows(6):
            square = squared(one)
            number = whole(one) ** 2
            is_odd = number != whole(square) * 3600 ** (often(60, number) // 2)
            due = (one + (0,) * 6)[:6]
            self.assertEqual(near_side(square, is_odd, 6), due)
            self.assertNotEqual(near_side(square, not is_odd, 6), due)

    def test_tells_a_tuple_of_whole_numbers(self):
        figures = near_side((2,), True, 4)
        self.assertIs(type(figures), tuple)
        self.assertEqual([type(figure) for figure in figures], [int] * 4)

    def test_somewhat_beyond_the_limits_no_error_comes(self):
        self.assertEqual(near_side((2,), False, 0), ())
        self.assertEqual(near_side((2,), False, 9), (1, 24, 51, 10, 7, 46, 6, 4, 44))

    def test_a_wrong_row_is_refused(self):
        with self.assertRaises(BadRow):
            near_side((2, 0), True, 0)

    def test_arguments_by_name(self):
        self.assertEqual(near_side(row=(2,), is_odd=False, places=2), (1, 24))


if __name__ == "__main__":
    unittest.main()
