"""Promise [14]: what a problem may be, and how a bad step is refused."""

import unittest

from sixtyfold.errors import BadStep
from sixtyfold.problems import answers, ways
from tests.problems import PROBLEMS, TWENTY, exactly
from tests.samples import HIGHEST, wrong_rows

A = ("given", "a", (2,))
B = ("given", "b", (3,))
# Two given ones behind which the step to test stands as number 2.
TWO = [A, B]
FOUR = [("given", name, (7,)) for name in ("a", "b", "c", "d")]
WORDS_OF_TWO = ("times", "part", "sum", "less")
WORDS_OF_ONE = ("square", "side")
LIMIT = ((1,), 0)

BAD_WORDS = ("", " ", "give", "Given", "GIVEN", "given ", " given", "is", "and", "root", "minus", "a", "none", "count")
BAD_NAMES = ("", "abcdefghi", "abcdefghijklmnop", "A", "aB", "a1", "1", "a b", " ", " a", "a ", "a-b", "a_b", "a.",
             "a\n", "`", "{", "\u00e9", "\u03b1", "\u0131", "a\u0301")
GOOD_NAMES = ("z", "az", "abcdefg", "abcdefgh", "zzzzzzzz", "is", "and", "given", "bound", "none", "at", "word", "many")
BAD_SIZES = (-1000, -61, -8, -7, 7, 8, 60, 10 ** 5000)


class BadSteps(unittest.TestCase):

    def assert_bad(self, problem, at, why):
        for ask in (ways, lambda asked: answers(asked, "a"), lambda asked: answers(asked, "nobody")):
            with self.assertRaises(BadStep) as caught:
                ask(problem)
            self.assertIs(type(caught.exception), BadStep)
            self.assertEqual((caught.exception.at, caught.exception.why), (at, why), problem)

    def assert_good(self, problem):
        self.assertIs(type(ways(problem)), list)

    def test_the_samples_are_good(self):
        for name, problem in PROBLEMS.items():
            with self.subTest(name=name):
                self.assert_good(problem)

    def test_word(self):
        for word in BAD_WORDS:
            for rest in ((), ("a",), ("c", (1,)), ("c", "a", "b"), ("c", None, None), ("c", "a")):
                self.assert_bad([(word, *rest)], 0, "word")
                self.assert_bad(TWO + [(word, *rest)], 2, "word")

    def test_a_step_of_nothing(self):
        self.assert_bad([()], 0, "word")
        self.assert_bad(TWO + [()], 2, "word")

    def test_count(self):
        bad = [("given",), ("given", "c"), ("given", "c", (1,), (1,)), ("given", "c", (1,), 0)]
        bad += [("bound",), ("bound", "a"), ("bound", "a", LIMIT), ("bound", "a", None),
                ("bound", "a", None, None, None), ("bound", "a", (1,), 0, (1,), 0)]
        for word in WORDS_OF_TWO:
            bad += [(word,), (word, "c"), (word, "c", "a"), (word, "c", "a", "b", "a")]
        for word in WORDS_OF_ONE:
            bad += [(word,), (word, "c"), (word, "c", "a", "b")]
        for step in bad:
            with self.subTest(step=step):
                self.assert_bad(TWO + [step], 2, "word")

    def test_count_goes_ahead_of_all_others(self):
        for step in (("given", "", (0,), 1), ("given", "A"), ("bound", "", ((0,), 9)), ("times", "a", "x"),
                     ("square", "a", "x", "y"), ("side", "")):
            self.assert_bad([step], 0, "word")
            self.assert_bad(FOUR + [step], 4, "word")

    def test_own_name_that_is_none(self):
        for name in BAD_NAMES:
            with self.subTest(name=name):
                self.assert_bad([("given", name, (1,))], 0, "name")
                self.assert_bad(TWO + [("bound", name, LIMIT, None)], 2, "name")
                for word in WORDS_OF_TWO:
                    self.assert_bad(TWO + [(word, name, "a", "b")], 2, "name")
                for word in WORDS_OF_ONE:
                    self.assert_bad(TWO + [(word, name, "a")], 2, "name")

    def test_names_of_one_to_eight_small_letters(self):
        for name in GOOD_NAMES:
            for step in (("given", name, (1,)), ("square", name, "a"), ("sum", name, "a", "b")):
                self.assertEqual(sorted(ways(TWO + [step])[0]), sorted(["a", "b", name]))
        for letter in "abcdefghijklmnopqrstuvwxyz":
            self.assertEqual(len(ways([("given", letter, (1,))])), 13)

    def test_own_name_that_stands_already(self):
        ahead = TWO + [("times", "c", "a", "b"), ("square", "d", "a")]
        for name in ("a", "b", "c", "d"):
            self.assert_bad(ahead + [("given", name, (1,))], 4, "name")
            for word in WORDS_OF_TWO:
                self.assert_bad(ahead + [(word, name, "a", "b")], 4, "name")
            for word in WORDS_OF_ONE:
                self.assert_bad(ahead + [(word, name, "a")], 4, "name")

    def test_own_name_of_a_bound_that_does_not_stand(self):
        self.assert_bad([("bound", "a", LIMIT, None)], 0, "name")
        self.assert_bad(TWO + [("bound", "c", None, None)], 2, "name")
        self.assert_bad([("bound", "a", None, None), A], 0, "name")

    def test_a_bound_may_stand_behind_a_bound(self):
        self.assert_good(TWO + [("bound", "a", None, LIMIT), ("bound", "a", None, None), ("bound", "a", LIMIT, None)])

    def test_many(self):
        self.assert_good(FOUR)
        self.assert_bad(FOUR + [("given", "e", (1,))], 4, "many")
        few = [step for name in "abcd" for step in (("given", name, (1,)), exactly(name, (1,), 0))]
        self.assert_bad(few + [("sum", "e", "a", "b"), ("given", "f", (1,)), ("given", "g", (1,))], 9, "many")

    def test_other_steps_are_not_counted_as_given(self):
        problem = TWO + [("square", name, "a") for name in "cdefghijk"]
        self.assertEqual(len(ways(problem + [("given", "l", (1,))])), 13 ** 3)

    def test_many_between_name_and_row(self):
        self.assert_bad(FOUR + [("given", "E", (1,))], 4, "name")
        self.assert_bad(FOUR + [("given", "a", (1,))], 4, "name")
        self.assert_bad(FOUR + [("given", "e", (0,))], 4, "many")
        self.assert_bad(FOUR + [("given", "e", ())], 4, "many")

    def test_row_of_a_given_one(self):
        for bad in wrong_rows():
            self.assert_bad([("given", "a", bad)], 0, "row")
        self.assert_bad(TWO + [("given", "c", (1, 0))], 2, "row")
        self.assert_bad(TWO + [("given", "a", (1, 0))], 2, "name")
        self.assert_good([("given", "a", HIGHEST)])

    def test_rows_of_a_bound(self):
        for bad in wrong_rows():
            for size in (0, 7):
                self.assert_bad([A, ("bound", "a", (bad, size), None)], 1, "row")
                self.assert_bad([A, ("bound", "a", None, (bad, size))], 1, "row")
        self.assert_good([A, ("bound", "a", ((1,), 0), (HIGHEST, 6))])

    def test_sizes_of_a_bound(self):
        for bad in BAD_SIZES:
            self.assert_bad([A, ("bound", "a", ((1,), bad), None)], 1, "size")
            self.assert_bad([A, ("bound", "a", None, ((1,), bad))], 1, "size")
            self.assert_bad([A, ("bound", "a", ((1,), bad), ((1,), bad))], 1, "size")
        for good in range(-6, 7):
            self.assert_good([A, ("bound", "a", ((1,), good), None)])
            self.assert_good([A, ("bound", "a", None, ((1,), good))])

    def test_the_first_word_of_a_bound(self):
        row, size, good = ((0,), 0), ((1,), 7), ((1,), 0)
        both = ((0,), 7)
        for least, most, why in (
                (row, size, "row"), (size, row, "size"), (good, row, "row"), (good, size, "size"), (row, good, "row"),
                (size, good, "size"), (both, size, "row"), (size, both, "size"), (good, both, "row"),
                (None, both, "row"), (both, None, "row"), (None, size, "size"), (size, None, "size")):
            with self.subTest(least=least, most=most):
                self.assert_bad([A, ("bound", "a", least, most)], 1, why)
                self.assert_bad([A, ("bound", "b", least, most)], 1, "name")

    def test_none_for_a_bound(self):
        for least, most in ((None, None), (LIMIT, None), (None, LIMIT), (LIMIT, LIMIT)):
            self.assert_good([A, ("bound", "a", least, most)])

    def test_bounds_that_nothing_keeps_are_no_bad_step(self):
        self.assertEqual(ways([A, ("bound", "a", ((2,), 0), ((1,), 0))]), [])

    def test_another_name_that_does_not_stand(self):
        for bad in ("c", "x", "aa", "", "A", "abcdefghi", "a b"):
            for word in WORDS_OF_TWO:
                self.assert_bad(TWO + [(word, "d", bad, "a")], 2, "name")
                self.assert_bad(TWO + [(word, "d", "a", bad)], 2, "name")
                self.assert_bad(TWO + [(word, "d", bad, bad)], 2, "name")
            for word in WORDS_OF_ONE:
                self.assert_bad(TWO + [(word, "d", bad)], 2, "name")

    def test_a_step_does_not_stand_for_itself_or_those_ahead(self):
        self.assert_bad(TWO + [("times", "c", "c", "a")], 2, "name")
        self.assert_bad(TWO + [("square", "c", "c")], 2, "name")
        self.assert_bad(TWO + [("square", "c", "d"), ("square", "d", "a")], 2, "name")
        self.assert_bad([("square", "c", "a"), A], 0, "name")
        self.assert_good(TWO + [("square", "c", "a"), ("square", "d", "c")])

    def test_the_first_bad_step(self):
        bad = [(("give", "x", "y"), "word"), (("given", "", (1,)), "name"), (("given", "x", (0,)), "row"),
               (("bound", "a", ((1,), 7), None), "size"), (("sum", "x", "a", "y"), "name")]
        for at in range(1, 6):
            ahead = [A] + [("square", name, "a") for name in "bcdefg"[:at - 1]]
            for first, why in bad:
                for second, _ in bad:
                    self.assert_bad(ahead + [first, second], at, why)

    def test_a_bad_step_goes_ahead_of_there_being_no_way(self):
        self.assert_bad([A, ("side", "b", "a"), ("side", "c", "x")], 2, "name")
        self.assert_bad([A, ("less", "b", "a", "a"), ("side", "b", "a")], 2, "name")

    def test_twenty_one_steps(self):
        self.assertEqual(len(TWENTY), 20)
        self.assert_good(TWENTY)
        self.assert_bad(TWENTY + [("square", "q", "a")], 20, "many")
        self.assert_bad(TWENTY + [("square", "q", "a")] * 30, 20, "many")

    def test_twenty_one_steps_go_ahead_of_all(self):
        self.assert_bad([()] + TWENTY, 20, "many")
        self.assert_bad([("give", "", (0,))] * 21, 20, "many")
        self.assert_bad(FOUR * 6, 20, "many")
        self.assert_bad(TWENTY + [()], 20, "many")
        self.assert_bad([()] * 100, 20, "many")

    def test_twenty_bad_steps(self):
        self.assert_bad([()] * 20, 0, "word")
        self.assert_bad(TWENTY[:19] + [("side", "a", "b")], 19, "name")
        self.assert_bad(TWENTY[:19] + [("given", "z", (0,))], 19, "row")


if __name__ == "__main__":
    unittest.main()
