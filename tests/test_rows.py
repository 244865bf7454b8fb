"""Promises [2], [3] and [4]: rows, their texts, products and casts."""

import unittest

from sixtyfold.errors import BadRow
from sixtyfold.rows import cast, read, times, written
from tests.samples import HIGHEST, LOWEST, row, some_rows, whole


class Times(unittest.TestCase):

    def test_rows_of_one_figure(self):
        self.assertEqual(times((1,), (1,)), (1,))
        self.assertEqual(times((2,), (7,)), (14,))
        self.assertEqual(times((7,), (9,)), (1, 3))
        self.assertEqual(times((59,), (59,)), (58, 1))

    def test_each_pair_of_figures(self):
        for one in range(1, 60):
            for other in range(1, 60):
                high, low = divmod(one * other, 60)
                due = (high, low) if high and low else (high or low,)
                self.assertEqual(times((one,), (other,)), due)

    def test_rows_of_several_figures(self):
        self.assertEqual(times((1, 1), (1, 1)), (1, 2, 1))
        self.assertEqual(times((1, 30), (1, 20)), (2,))
        self.assertEqual(times((44, 26, 40), (1, 21)), (1,))
        self.assertEqual(times((1, 0, 1), (2,)), (2, 0, 2))

    def test_product_that_ends_in_noughts(self):
        self.assertEqual(times((30,), (2,)), (1,))
        self.assertEqual(times((30,), (4,)), (2,))
        self.assertEqual(times((48,), (1, 15)), (1,))
        self.assertEqual(times((30, 30), (2,)), (1, 1))
        self.assertEqual(times((30, 0, 30), (2,)), (1, 0, 1))
        # 2 ** 70 times 15 ** 35 is sixty to the 35th.
        self.assertEqual(times(row(2 ** 70), row(15 ** 17)), row(2 ** 36))

    def test_row_of_twelve_figures(self):
        self.assertEqual(times(LOWEST, HIGHEST), HIGHEST)
        self.assertEqual(times(HIGHEST, LOWEST), HIGHEST)

    def test_product_longer_than_twelve_figures(self):
        self.assertEqual(times(HIGHEST, (2,)), (1,) + (59,) * 11 + (58,))
        self.assertEqual(times(HIGHEST, HIGHEST), (59,) * 11 + (58,) + (0,) * 11 + (1,))
        self.assertEqual(len(times(HIGHEST, HIGHEST)), 24)
        long = (1,) + (0,) * 10 + (1,)
        self.assertEqual(times(long, long), (1,) + (0,) * 10 + (2,) + (0,) * 10 + (1,))

    def test_many_products(self):
        rows = some_rows(12)
        for at, one in enumerate(rows):
            for other in (one, rows[-1 - at], rows[at // 2], (30,)):
                due = row(whole(one) * whole(other))
                self.assertEqual(times(one, other), due)
                self.assertEqual(times(other, one), due)

    def test_tells_a_tuple_of_whole_numbers(self):
        product = times((7,), (1, 9))
        self.assertIs(type(product), tuple)
        self.assertEqual([type(figure) for figure in product], [int, int])

    def test_arguments_by_name(self):
        self.assertEqual(times(one=(2,), other=(3,)), (6,))


class Cast(unittest.TestCase):

    def test_sums_below_59(self):
        self.assertEqual(cast((1,)), 1)
        self.assertEqual(cast((1, 2, 3)), 6)
        self.assertEqual(cast((10, 0, 20)), 30)

    def test_cast_of_58(self):
        self.assertEqual(cast((58,)), 58)
        self.assertEqual(cast((29, 29)), 58)
        self.assertEqual(cast((59, 58)), 58)
        self.assertEqual(cast((59,) * 11 + (58,)), 58)

    def test_cast_of_0(self):
        self.assertEqual(cast((59,)), 0)
        self.assertEqual(cast((1, 58)), 0)
        self.assertEqual(cast((59, 59)), 0)
        self.assertEqual(cast(HIGHEST), 0)

    def test_59_is_taken_as_often_as_can_be(self):
        self.assertEqual(cast((59, 1)), 1)
        self.assertEqual(cast((59, 59, 1)), 1)
        self.assertEqual(cast((40, 40, 40)), 2)
        self.assertEqual(cast((50,) * 12), 600 % 59)

    def test_many_casts(self):
        for one in some_rows(12):
            self.assertEqual(cast(one), sum(one) % 59)

    def test_cast_of_a_product_is_that_of_the_product_of_the_casts(self):
        rows = some_rows(6)
        for one in rows:
            for other in rows:
                self.assertEqual(cast(times(one, other)), cast(one) * cast(other) % 59)

    def test_argument_by_name(self):
        self.assertEqual(cast(row=(5, 6)), 11)


class Written(unittest.TestCase):

    def test_one_blank_between(self):
        self.assertEqual(written((1,)), "1")
        self.assertEqual(written((59,)), "59")
        self.assertEqual(written((1, 24, 51, 10)), "1 24 51 10")

    def test_noughts_inside(self):
        self.assertEqual(written((1, 0, 1)), "1 0 1")
        self.assertEqual(written((10, 0, 0, 5)), "10 0 0 5")

    def test_twelve_figures(self):
        self.assertEqual(written(HIGHEST), "59 59 59 59 59 59 59 59 59 59 59 59")

    def test_a_told_row_longer_than_twelve_is_none_when_handed_in(self):
        with self.assertRaises(BadRow):
            written(times(HIGHEST, HIGHEST))

    def test_argument_by_name(self):
        self.assertEqual(written(row=(5, 6)), "5 6")


class Read(unittest.TestCase):

    def test_texts_of_rows(self):
        self.assertEqual(read("1"), (1,))
        self.assertEqual(read("1 24 51 10"), (1, 24, 51, 10))
        self.assertEqual(read("1 0 1"), (1, 0, 1))
        self.assertEqual(read("10 20 50"), (10, 20, 50))
        self.assertEqual(read("59 59 59 59 59 59 59 59 59 59 59 59"), HIGHEST)

    def test_each_figure(self):
        for figure in range(60):
            self.assertEqual(read(f"1 {figure} 1"), (1, figure, 1))

    def test_what_is_written_is_read_again(self):
        for one in some_rows(12):
            self.assertEqual(read(written(one)), one)
            self.assertEqual(written(one), " ".join(map(str, one)))

    def test_other_texts_are_refused(self):
        texts = [
            "", " ", "  ", "\n", "\r\n",
            " 1", "1 ", "  1", "1  ", "1  2", "1   2", "1 2 ", " 1 2", "1 2  3",
            "01", "00", "1 02", "01 2", "1 00 2", "1 007 2", "1 059", "000 1",
            "0", "0 1", "1 0", "0 0", "0 1 0", "1 2 0", "0 1 2",
            "60", "1 60", "60 1", "1 60 1", "61", "99", "100", "1 3600", "1" * 5000,
            "-1", "1 -1", "1 -0 1", "-0", "+1", "1 +1", "- 1", "1 - 1", "--1",
            "a", "1 a", "a 1", "1 a 1", "x1", "1x", "0x1", "1e1", "1_0", "1.", "1.0", ".", "1.2",
            "1,2", "1, 2", "1;2", "1:2", "1/2", "'1'", "(1,)", "one", "none",
            "1\n", "\n1", "1\n2", "1 \n2", "1\r", "1 2\n", "1 2\r\n",
            " ".join(["1"] * 13), " ".join(["59"] * 13), " ".join(["1"] * 200),
            "1 0 0 0 0 0 0 0 0 0 0 0 1", " ".join(["1"] * 12) + " ", " ".join(["1"] * 12) + " 0",
        ]
        for text in texts:
            with self.subTest(text=text[:40]):
                with self.assertRaises(BadRow):
                    read(text)

    def test_argument_by_name(self):
        self.assertEqual(read(text="5 6"), (5, 6))


if __name__ == "__main__":
    unittest.main()
