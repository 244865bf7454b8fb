"""Promises [13] and [15]: sized numbers, and the ways of a problem."""

import unittest

from sixtyfold.problems import ways
from tests.problems import FIELD, NO_END, PROBLEMS, SCHOOL, TWENTY, exactly
from tests.reckoning import SIZES, due_ways, sized, value
from tests.samples import HIGHEST, row, some_rows

UNITS = [("given", "a", (1,))]


def pair(one, other, *steps):
    """A problem of two numbers of one size each, with further steps behind them."""
    return [("given", "a", one[0]), exactly("a", *one), ("given", "b", other[0]), exactly("b", *other), *steps]


def outcome(word, one, other):
    """What a step of two numbers comes to, None if it cannot be done."""
    found = ways(pair(one, other, (word, "c", "a", "b")))
    return found[0]["c"] if found else None


def outcome_of_one(word, one):
    """What a step of one number comes to, None if it cannot be done."""
    found = ways([("given", "a", one[0]), exactly("a", *one), (word, "c", "a")])
    return found[0]["c"] if found else None


class Ways(unittest.TestCase):

    def test_the_samples(self):
        for name, problem in PROBLEMS.items():
            with self.subTest(name=name):
                self.assertEqual(ways(problem), due_ways(problem))

    def test_no_given_one(self):
        self.assertEqual(ways([]), [{}])

    def test_one_given_one(self):
        self.assertEqual(ways([("given", "a", (7, 30))]), [{"a": ((7, 30), size)} for size in range(-6, 7)])
        self.assertEqual(ways([("given", "a", HIGHEST)]), [{"a": (HIGHEST, size)} for size in range(-6, 7)])

    def test_four_given_ones(self):
        problem = [("given", name, (place + 1,)) for place, name in enumerate("dacb")]
        due = [{"d": ((1,), one), "a": ((2,), two), "c": ((3,), three), "b": ((4,), four)}
               for one in SIZES for two in SIZES for three in SIZES for four in SIZES]
        self.assertEqual(ways(problem), due)

    def test_rising_by_the_given_ones_in_the_order_of_the_steps(self):
        problem = [("given", "b", (1,)), ("bound", "b", ((1,), 1), ((1,), 2)), ("square", "c", "b"),
                   ("given", "a", (1,)), ("bound", "a", ((1,), -1), ((1,), 1))]
        self.assertEqual([(way["b"][1], way["a"][1]) for way in ways(problem)],
                         [(1, -1), (1, 0), (1, 1), (2, -1), (2, 0), (2, 1)])

    def test_sizes_rise_not_what_comes_of_them(self):
        problem = UNITS + [("given", "b", (1,)), exactly("b", (1,), 0), ("part", "c", "b", "a")]
        self.assertEqual([way["c"][1] for way in ways(problem)], list(range(6, -7, -1)))

    def test_all_names_stand_in_each_way(self):
        for way in ways(FIELD):
            self.assertEqual(sorted(way), ["again", "area", "long", "short"])
        for way in ways(TWENTY):
            self.assertEqual(sorted(way), list("abcdefghijklmnop"))

    def test_the_field_and_the_school_problem(self):
        self.assertEqual(ways(FIELD), [{
            "long": ((1,), 1), "short": ((45,), 0), "area": ((45,), 1), "again": ((1,), 1)}])
        self.assertEqual(ways(SCHOOL), [{
            "both": ((45,), -1), "one": ((1,), 0), "two": ((2,), 0), "half": ((30,), -1), "small": ((15,), -1),
            "big": ((1,), 0), "root": ((1,), 0), "side": ((30,), -1)}])

    def test_no_way_at_all(self):
        self.assertEqual(ways(UNITS + [("less", "b", "a", "a")]), [])
        self.assertEqual(ways([("given", "a", (2,)), ("side", "b", "a")]), [])
        self.assertEqual(ways(NO_END), [])

    def test_kinds(self):
        told = ways(FIELD)
        self.assertIs(type(told), list)
        self.assertIs(type(told[0]), dict)
        for number in told[0].values():
            self.assertIs(type(number), tuple)
            self.assertEqual([type(item) for item in number], [tuple, int])

    def test_argument_by_name(self):
        self.assertEqual(ways(problem=[]), [{}])

    def test_long_numbers(self):
        names = "abcdefghijklmnopqrst"
        problem = [("given", "a", (1,))] + [("square", names[at + 1], names[at]) for at in range(19)]
        self.assertEqual([way["t"] for way in ways(problem)], [((1,), size * 2 ** 19) for size in SIZES])
        bounded = problem[:19] + [("bound", "s", ((59,), -1), ((1,), 6))]
        self.assertEqual([way["a"] for way in ways(bounded)], [((1,), 0)])
        problem = [("given", "a", HIGHEST)] + [("square", names[at + 1], names[at]) for at in range(6)]
        self.assertEqual(ways(problem)[6]["g"], (row((60 ** 12 - 1) ** 64), 0))


class Steps(unittest.TestCase):

    def test_times(self):
        self.assertEqual(outcome("times", ((2,), 0), ((7,), 0)), ((14,), 0))
        self.assertEqual(outcome("times", ((30,), 0), ((2,), 0)), ((1,), 1))
        self.assertEqual(outcome("times", ((30,), -1), ((2,), 0)), ((1,), 0))
        self.assertEqual(outcome("times", ((1, 30), 5), ((1, 20), 6)), ((2,), 13))
        self.assertEqual(outcome("times", ((1,), -6), ((1,), -6)), ((1,), -12))

    def test_part(self):
        self.assertEqual(outcome("part", ((1,), 0), ((2,), 0)), ((30,), -1))
        self.assertEqual(outcome("part", ((1,), 0), ((1, 21), 0)), ((44, 26, 40), -4))
        self.assertEqual(outcome("part", ((1,), 6), ((1,), -6)), ((1,), 12))
        self.assertEqual(outcome("part", ((7,), 0), ((7,), 2)), ((1,), -2))
        self.assertEqual(outcome("part", ((14,), 0), ((7,), 0)), ((2,), 0))
        self.assertEqual(outcome("part", ((7,), 0), ((14,), 0)), ((30,), -1))

    def test_parts_that_sixties_do_not_end(self):
        for size in SIZES:
            self.assertIsNone(outcome("part", ((1,), size), ((7,), 0)))
            self.assertIsNone(outcome("part", ((11,), 0), ((1, 17), size)))
            self.assertIsNone(outcome("part", ((1,), 0), ((14,), size)))

    def test_sum(self):
        self.assertEqual(outcome("sum", ((1,), 0), ((1,), 0)), ((2,), 0))
        self.assertEqual(outcome("sum", ((1,), 0), ((1,), 1)), ((1, 1), 0))
        self.assertEqual(outcome("sum", ((1,), -6), ((1,), 6)), ((1,) + (0,) * 11 + (1,), -6))
        self.assertEqual(outcome("sum", ((59,), 0), ((1,), 0)), ((1,), 1))
        self.assertEqual(outcome("sum", ((59, 59, 30), -1), ((30,), -1)), ((1,), 2))

    def test_less(self):
        self.assertEqual(outcome("less", ((3,), 0), ((2,), 0)), ((1,), 0))
        self.assertEqual(outcome("less", ((1,), 1), ((1,), 0)), ((59,), 0))
        self.assertEqual(outcome("less", ((1,), 6), ((1,), -6)), ((59,) * 12, -6))
        self.assertEqual(outcome("less", ((1, 1), 0), ((1,), 0)), ((1,), 1))

    def test_less_that_comes_to_nothing_or_below(self):
        for size in SIZES:
            self.assertIsNone(outcome("less", ((7,), size), ((7,), size)))
        self.assertIsNone(outcome("less", ((2,), 0), ((3,), 0)))
        self.assertIsNone(outcome("less", ((59,), -1), ((1,), 0)))
        self.assertIsNone(outcome("less", ((1,), 0), ((1,), 1)))
        self.assertIsNone(outcome("less", ((1,), 0), ((1, 0, 1), -2)))

    def test_square(self):
        self.assertEqual(outcome_of_one("square", ((7,), 0)), ((49,), 0))
        self.assertEqual(outcome_of_one("square", ((7,), -3)), ((49,), -6))
        self.assertEqual(outcome_of_one("square", ((30,), -1)), ((15,), -1))
        self.assertEqual(outcome_of_one("square", ((30,), 6)), ((15,), 13))

    def test_side(self):
        self.assertEqual(outcome_of_one("side", ((49,), 0)), ((7,), 0))
        self.assertEqual(outcome_of_one("side", ((49,), 6)), ((7,), 3))
        self.assertEqual(outcome_of_one("side", ((49,), -4)), ((7,), -2))
        self.assertEqual(outcome_of_one("side", ((15,), -1)), ((30,), -1))
        self.assertEqual(outcome_of_one("side", ((15,), 1)), ((30,), 0))
        self.assertEqual(outcome_of_one("side", ((15,), -5)), ((30,), -3))

    def test_sides_of_numbers_that_are_squares_at_each_other_size(self):
        for figures, first in (((1,), -6), ((4,), -6), ((2, 15), -5), ((15,), -5), ((1, 2, 1), -6)):
            problem = [("given", "a", figures), ("side", "b", "a")]
            self.assertEqual([way["a"][1] for way in ways(problem)], list(range(first, 7, 2)))

    def test_numbers_that_are_no_squares_at_any_size(self):
        for figures in ((2,), (3,), (5,), (6,), (7,), (30,), (1, 30), (1, 0, 1)):
            for size in SIZES:
                self.assertIsNone(outcome_of_one("side", (figures, size)))

    def test_the_side_of_a_square_is_the_number(self):
        for figures in some_rows(5):
            problem = [("given", "a", figures), ("square", "b", "a"), ("side", "c", "b")]
            self.assertEqual([way["c"] for way in ways(problem)], [(figures, size) for size in SIZES])

    def test_the_same_number_twice(self):
        problem = UNITS + [("times", "b", "a", "a"), ("sum", "c", "a", "a"), ("part", "d", "a", "a")]
        self.assertEqual(ways(problem), [{
            "a": ((1,), size), "b": ((1,), 2 * size), "c": ((2,), size), "d": ((1,), 0)} for size in SIZES])

    def test_many_pairs(self):
        rows = some_rows(4)[::2] + [(7,), (14,), (15,), (1, 21)]
        for at, one in enumerate(rows):
            for word in ("times", "part", "sum", "less"):
                other = rows[(3 * at + 1) % len(rows)]
                first, second = (one, at % 5 - 2), (other, at % 3 - 1)
                problem = pair(first, second, (word, "c", "a", "b"))
                self.assertEqual(ways(problem), due_ways(problem))

    def test_a_given_one_has_sizes_from_minus_6_to_6_but_what_comes_of_it_any(self):
        problem = UNITS + [("square", "b", "a"), ("square", "c", "b")]
        self.assertEqual([way["c"][1] for way in ways(problem)], [4 * size for size in SIZES])


class Bounds(unittest.TestCase):

    def sizes(self, least, most, figures=(7,)):
        return [way["a"][1] for way in ways([("given", "a", figures), ("bound", "a", least, most)])]

    def test_right_at_the_number(self):
        self.assertEqual(self.sizes(((7,), 2), None), [2, 3, 4, 5, 6])
        self.assertEqual(self.sizes(None, ((7,), 2)), [-6, -5, -4, -3, -2, -1, 0, 1, 2])
        self.assertEqual(self.sizes(((7,), 2), ((7,), 2)), [2])

    def test_next_to_the_number(self):
        self.assertEqual(self.sizes(((7, 0, 1), 0), None), [3, 4, 5, 6])
        self.assertEqual(self.sizes(((6, 59, 59), 0), None), [2, 3, 4, 5, 6])
        self.assertEqual(self.sizes(None, ((6, 59, 59), 0)), [-6, -5, -4, -3, -2, -1, 0, 1])
        self.assertEqual(self.sizes(None, ((7, 0, 1), 0)), [-6, -5, -4, -3, -2, -1, 0, 1, 2])
        self.assertEqual(self.sizes(((6, 59), 0), ((7, 1), 0)), [1])
        self.assertEqual(self.sizes(((8,), 0), ((6,), 1)), [])

    def test_rows_of_other_lengths(self):
        self.assertEqual(self.sizes(((59,), 0), ((1, 0, 1), 0), (1,)), [1, 2])
        self.assertEqual(self.sizes(((1, 0, 1), -2), ((59, 59), 0), (1,)), [1])
        self.assertEqual(self.sizes(((1,), 0), None, (1, 0, 1)), [-2, -1, 0, 1, 2, 3, 4, 5, 6])
        self.assertEqual(self.sizes(None, ((1,), 0), (1, 0, 1)), [-6, -5, -4, -3])
        self.assertEqual(self.sizes(None, ((1,), 6), HIGHEST), [-6])
        self.assertEqual(self.sizes((HIGHEST, 6), None, HIGHEST), [6])

    def test_none_is_no_bound(self):
        self.assertEqual(self.sizes(None, None), list(SIZES))

    def test_the_farthest_bounds(self):
        self.assertEqual(self.sizes(((7,), 6), None), [6])
        self.assertEqual(self.sizes(None, ((7,), -6)), [-6])
        self.assertEqual(self.sizes(((7, 1), 6), None), [])
        self.assertEqual(self.sizes(None, ((6,), -6)), [])

    def test_least_above_most(self):
        self.assertEqual(self.sizes(((8,), 0), ((7,), 0)), [])

    def test_bounds_of_numbers_that_were_made(self):
        problem = UNITS + [("square", "b", "a"), ("bound", "b", ((1,), -3), ((1,), 3))]
        self.assertEqual([way["a"][1] for way in ways(problem)], [-1, 0, 1])

    def test_many_bounds(self):
        rows = some_rows(4)
        for at, figures in enumerate(rows):
            least, most = (rows[at // 2], at % 5 - 3), (rows[-1 - at], at % 7 - 1)
            for bound in ((least, None), (None, most), (least, most), (most, least)):
                problem = [("given", "a", figures), ("bound", "a", *bound)]
                self.assertEqual(ways(problem), due_ways(problem))


class SizedNumbers(unittest.TestCase):

    def test_each_number_is_told_as_just_one(self):
        problem = [("given", "a", (30,)), ("given", "b", (2,)), ("times", "c", "a", "b"), ("given", "d", (20,)),
                   ("sum", "e", "d", "a"), ("part", "f", "c", "d")]
        for way in ways(problem):
            for number in way.values():
                figures, size = number
                self.assertNotEqual((figures[0], figures[-1]), (0, 0))
                self.assertNotEqual(figures[-1], 0)
                self.assertEqual(sized(value(number)), number)


if __name__ == "__main__":
    unittest.main()
