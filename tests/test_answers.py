"""Promise [16]: the one size of a number, or all of them, or the step that cannot be done."""

import unittest

from sixtyfold.errors import BadStep
from sixtyfold.problems import answers, ways
from tests.problems import FIELD, FOUR_GIVEN, NO_END, NO_SIDE, NO_WAY, PROBLEMS, SCHOOL, TWENTY, exactly
from tests.reckoning import SIZES, due_answer, value

ONES = [("given", "a", (1,)), ("given", "b", (1,))]


class Answers(unittest.TestCase):

    def test_the_samples(self):
        for problem in PROBLEMS.values():
            for name in sorted({step[1] for step in problem}):
                with self.subTest(problem=problem, name=name):
                    self.assertEqual(answers(problem, name), due_answer(problem, name))

    def test_one(self):
        self.assertEqual(answers(FIELD, "area"), ("one", ((45,), 1)))
        self.assertEqual(answers(SCHOOL, "side"), ("one", ((30,), -1)))

    def test_one_by_several_ways(self):
        problem = ONES + [("part", "c", "a", "a"), ("sum", "d", "c", "c")]
        self.assertEqual(len(ways(problem)), 169)
        self.assertEqual(answers(problem, "c"), ("one", ((1,), 0)))
        self.assertEqual(answers(problem, "d"), ("one", ((2,), 0)))

    def test_sizes(self):
        self.assertEqual(answers(ONES, "a"), ("sizes", [((1,), size) for size in SIZES]))
        problem = ONES + [("bound", "a", ((1,), 0), ((1,), 1))]
        self.assertEqual(answers(problem, "a"), ("sizes", [((1,), 0), ((1,), 1)]))

    def test_sizes_each_once(self):
        self.assertEqual(answers(ONES + [("times", "c", "a", "b")], "c"),
                         ("sizes", [((1,), size) for size in range(-12, 13)]))

    def test_sizes_rise_as_numbers(self):
        problem = ONES + [exactly("b", (1,), 0), ("part", "c", "b", "a")]
        self.assertEqual(answers(problem, "c"), ("sizes", [((1,), size) for size in SIZES]))
        problem = ONES + [("bound", "a", ((1,), 0), ((1,), 2)), ("bound", "b", ((1,), 0), ((1,), 1)),
                          ("sum", "c", "a", "b")]
        self.assertEqual(answers(problem, "c"), ("sizes", [
            ((2,), 0), ((1, 1), 0), ((2,), 1), ((1, 0, 1), 0), ((1, 1), 1)]))
        for name in ("d", "f", "g"):
            word, numbers = answers(FOUR_GIVEN, name)
            self.assertEqual(word, "sizes")
            self.assertTrue(all(value(one) < value(other) for one, other in zip(numbers, numbers[1:])))
        numbers = answers(TWENTY, "n")[1]
        self.assertEqual(sorted(numbers, key=value), numbers)

    def test_several_rows_by_one_name(self):
        problem = ONES + [exactly("b", (1,), 0), ("bound", "a", ((1,), -1), ((1,), 1)), ("sum", "c", "a", "b")]
        self.assertEqual(answers(problem, "c"), ("sizes", [((1, 1), -1), ((2,), 0), ((1, 1), 0)]))

    def test_none(self):
        self.assertEqual(answers(NO_SIDE, "a"), ("none", 1))
        self.assertEqual(answers(NO_SIDE, "b"), ("none", 1))
        self.assertEqual(answers(NO_END, "c"), ("none", 3))
        self.assertEqual(answers(NO_WAY, "a"), ("none", 4))

    def test_none_by_each_sort_of_step(self):
        a = ("given", "a", (2,))
        for step in (("bound", "a", ((3,), 6), None), ("bound", "a", None, ((1,), -6)), ("less", "c", "a", "a"),
                     ("side", "c", "a"), ("bound", "a", ((1,), 1), ((1, 59), 0))):
            self.assertEqual(answers([a, step], "a"), ("none", 1))
            self.assertEqual(answers([a, ("square", "b", "a"), step, ("sum", "d", "a", "b")], "d"), ("none", 2))
        self.assertEqual(answers([a, ("given", "b", (7,)), ("part", "c", "a", "b")], "b"), ("none", 2))

    def test_the_farthest_step(self):
        # By most sizes an earlier step cannot be done; those by which it can come to a later one.
        less, bound = ("less", "c", "a", "b"), ("bound", "a", None, ((1,), -5))
        self.assertEqual(answers(ONES + [less, bound], "a"), ("one", ((1,), -5)))
        self.assertEqual(answers(ONES + [less, bound, ("bound", "b", ((1,), -5), None)], "a"), ("none", 4))
        self.assertEqual(answers(ONES + [less, ("bound", "b", ((1,), 6), None), bound], "a"), ("none", 3))
        self.assertEqual(answers(ONES + [("bound", "b", ((1,), 6), None), less, bound], "a"), ("none", 3))
        self.assertEqual(answers(ONES + [("bound", "b", ((1,), 6), None), bound, less], "a"), ("none", 4))

    def test_the_farthest_step_is_not_one_behind_it(self):
        problem = ONES + [("less", "c", "a", "a"), ("less", "d", "b", "b"), ("bound", "a", None, ((1,), -6))]
        self.assertEqual(answers(problem, "d"), ("none", 2))

    def test_the_farthest_step_by_sizes_of_a_later_given_one(self):
        problem = [("given", "a", (15,)), ("side", "b", "a"), ("given", "c", (15,)), ("side", "d", "c"),
                   ("sum", "e", "a", "c"), ("side", "f", "e"), ("bound", "f", ((1,), 6), None)]
        for name in "abcdef":
            self.assertEqual(answers(problem, name), due_answer(problem, name))

    def test_each_beginning_of_a_problem(self):
        for problem in (NO_WAY, NO_END, SCHOOL, TWENTY):
            for many in range(1, len(problem) + 1):
                self.assertEqual(answers(problem[:many], "both" if problem is SCHOOL else "a"),
                                 due_answer(problem[:many], "both" if problem is SCHOOL else "a"))

    def test_kinds(self):
        self.assertIs(type(answers(FIELD, "area")), tuple)
        self.assertIs(type(answers(FIELD, "area")[1]), tuple)
        self.assertIs(type(answers(ONES, "a")[1]), list)
        self.assertIs(type(answers(NO_SIDE, "a")[1]), int)

    def test_arguments_by_name(self):
        self.assertEqual(answers(problem=FIELD, name="short"), ("one", ((45,), 0)))


class NamesThatAreNotThere(unittest.TestCase):

    def assert_bad(self, problem, name, at, why):
        with self.assertRaises(BadStep) as caught:
            answers(problem, name)
        self.assertEqual((caught.exception.at, caught.exception.why), (at, why))

    def test_a_name_that_is_not_there(self):
        for name in ("z", "area ", "are", "", "Area", "given", "abcdefghi"):
            self.assert_bad(FIELD, name, 6, "name")
        self.assert_bad(ONES, "c", 2, "name")
        self.assert_bad(TWENTY, "q", 20, "name")

    def test_a_problem_of_no_steps(self):
        self.assert_bad([], "a", 0, "name")

    def test_behind_a_bad_step(self):
        self.assert_bad(ONES + [("side", "c", "x")], "y", 2, "name")
        self.assert_bad(ONES + [("given", "c", (0,)), ("side", "d", "a")], "y", 2, "row")
        self.assert_bad(ONES + [("give",)], "y", 2, "word")
        self.assert_bad(ONES + [("bound", "a", ((1,), 7), None)], "y", 2, "size")
        self.assert_bad(TWENTY + [()], "y", 20, "many")

    def test_the_name_of_a_bad_step(self):
        self.assert_bad(ONES + [("given", "c", (0,))], "c", 2, "row")

    def test_ahead_of_there_being_no_way(self):
        self.assert_bad(NO_SIDE, "c", 2, "name")
        self.assert_bad(NO_WAY, "x", 6, "name")

    def test_a_name_behind_the_step_that_cannot_be_done_is_there(self):
        self.assertEqual(answers(NO_WAY, "d"), ("none", 4))


if __name__ == "__main__":
    unittest.main()
