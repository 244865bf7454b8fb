"""Promise [17]: problems as texts."""

import unittest

from sixtyfold.errors import BadText
from sixtyfold.notes import problem_of, problem_text
from tests.problems import FIELD, PROBLEMS, SCHOOL
from tests.samples import HIGHEST, some_rows

LINES = {
    "a is 1": ("given", "a", (1,)),
    "long is 1 24 51 10": ("given", "long", (1, 24, 51, 10)),
    "abcdefgh is 1 0 1": ("given", "abcdefgh", (1, 0, 1)),
    "a is " + " ".join(["59"] * 12): ("given", "a", HIGHEST),
    "a from 1 at 0 to 2 at 0": ("bound", "a", ((1,), 0), ((2,), 0)),
    "a from 1 30 at -6 to 59 0 1 at 6": ("bound", "a", ((1, 30), -6), ((59, 0, 1), 6)),
    "a from none to 7 at 3": ("bound", "a", None, ((7,), 3)),
    "a from 7 at -3 to none": ("bound", "a", ((7,), -3), None),
    "a from none to none": ("bound", "a", None, None),
    "c is a times b": ("times", "c", "a", "b"),
    "c is a parted by b": ("part", "c", "a", "b"),
    "c is a and b": ("sum", "c", "a", "b"),
    "c is a less b": ("less", "c", "a", "b"),
    "c is the square of a": ("square", "c", "a"),
    "c is the side of a": ("side", "c", "a"),
    "c is c times c": ("times", "c", "c", "c"),
}

# Names that mean something else as well.
ODD = ("is", "and", "times", "less", "to", "from", "the", "of", "at", "none", "square", "side", "parted", "by",
       "given", "bound", "part", "sum")

NO_STEPS = [
    "", " ", "  ", "a", "a ", " a", "is", "a is", "a is ", "is 1", " is 1", "a 1", "a was 1", "a IS 1", "a = 1", "1 is a",
    # names that are none
    "A is 1", "aB is 1", "a1 is 1", "1 is 1", "abcdefghi is 1", "a-b is 1", "a_b is 1", "a, is 1", "a b is 1", "a. is 1",
    "abcdefghi from none to none", "A from none to none", "1 from none to none", " from none to none",
    "C is a times b", "c is A times b", "c is a times B", "c is a times abcdefghi", "c is abcdefghi times b",
    "abcdefghi is a times b", "c is 1 times b", "c is a times 1", "c is 1 and 2", "c is a less 1", "c is 2 less a",
    "c is 1 parted by a", "c is a parted by 1", "c is the square of 1", "c is the side of 1 30", "c is the side of A",
    "c is the square of abcdefghi", "7 is the square of a", "c is the side of a-b",
    # rows that are none
    "a is 0", "a is 1 0", "a is 0 1", "a is 60", "a is 01", "a is -1", "a is +1", "a is 1.", "a is 1,2", "a is one",
    "a is " + " ".join(["1"] * 13), "a is 1 60 1", "a is 1 01", "a is b", "a is a", "a is 1 b", "a is none",
    "a from 0 at 0 to none", "a from 1 0 at 0 to none", "a from none to 60 at 0", "a from none to 01 at 0",
    "a from none to " + " ".join(["1"] * 13) + " at 0", "a from b at 0 to none", "a from at 0 to none", "a from none to at 0",
    # sizes that are none
    "a from 1 at 7 to none", "a from 1 at -7 to none", "a from none to 1 at 7", "a from none to 1 at -7",
    "a from 1 at -0 to none", "a from 1 at +0 to none", "a from 1 at +1 to none", "a from 1 at 00 to none",
    "a from 1 at 01 to none", "a from 1 at -01 to none", "a from none to 1 at 06", "a from none to 1 at +6",
    "a from none to 1 at -0", "a from 1 at 10 to none", "a from 1 at - 1 to none", "a from 1 at --1 to none",
    "a from 1 at b to none", "a from 1 at  to none", "a from 1 at 1 1 to none", "a from 1 at 1. to none",
    "a from 1 at none to none", "a from 1 at 60 to none",
    # bounds that are none
    "a from", "a from ", "a from none", "a from none to", "a from none to ", "a from to none", "a from to", "a from 1 to 2",
    "a from 1 to none", "a from none to 1", "a from 1 at to none", "a from none none to none", "a from none to none none",
    "a from none to none to none", "a from none and none", "a from none at 0 to none", "a from 1 none at 0 to none",
    "a from 1 at 0", "a from 1 at 0 2 at 0", "a from 1 at 0 at 0 to none", "a from 1 at 0 to 2 at 0 to 3 at 0",
    "a to none to none", "a for none to none", "a none to none", "a at 1 at 0 to none", "a FROM none to none",
    "a isfrom none to none", "a of 1 at 0 to 2 at 0", "none to none", "from none to none", "a to none from none", "a from None to none", "a from NONE to none", "a from b to none", "a is 1 at 0", "a is from 1 to 2",
    # what numbers are made of, said in another way
    "c is a", "c is times", "c is a times", "c is times b", "c is a b", "c is a times times b", "c is a times b times c",
    "c is a parted b", "c is a by b", "c is a parted by", "c is parted by b", "c is a parted by b by c", "c is a part b",
    "c is a sum b", "c is a plus b", "c is a minus b", "c is a Times b", "c is a and b and c", "c is a less b less c",
    "c is the square", "c is the square of", "c is square of a", "c is square a", "c is the of a", "c is a square of b",
    "c is the square of a b", "c is the root of a", "c is the Side of a", "c is the side a", "c is the side of the a",
    "c is the square by a", "c is a the square of b", "c is the side of a times b", "the square of a is c",
    # blanks
    "a  is 1", "a is  1", " a is 1", "a is 1 ", "a is 1  2", "a is 1  ", "a from  none to none", "a from none  to none",
    "a from none to none ", "a from none to  none", "a from 1  at 0 to none", "c is a  times b", "c is a times b ",
    " c is a times b", "c  is a times b", "c is  times b", "c is a times ", "c is a times  b", "c is a parted  by b",
    "c is the  side of a", "c is the side of a ", "c is the side of  a", "c is the square of ", "c is  and b", "c is a and ",
    "c is  parted by b", "c is a parted by ", "c is  less  ",
]


class Written(unittest.TestCase):

    def test_no_steps(self):
        self.assertEqual(problem_text([]), "")

    def test_each_sort_of_line(self):
        for line, step in LINES.items():
            with self.subTest(line=line):
                self.assertEqual(problem_text([step]), line)

    def test_several_lines(self):
        self.assertEqual(problem_text(list(LINES.values())), "\n".join(LINES))
        self.assertEqual(problem_text(FIELD), "\n".join([
            "long is 1", "long from 1 at 1 to 1 at 1", "short is 45", "short from 40 at 0 to 50 at 0",
            "area is long times short", "again is area parted by short"]))
        self.assertEqual(problem_text(SCHOOL).split("\n")[6:], [
            "half is one parted by two", "small is the square of half", "big is small and both",
            "root is the side of big", "side is root less half"])

    def test_each_size(self):
        for size in range(-6, 7):
            self.assertEqual(problem_text([("bound", "a", ((1,), size), ((2,), size))]),
                             f"a from 1 at {size} to 2 at {size}")

    def test_names_that_mean_something_else(self):
        self.assertEqual(problem_text([("times", "times", "times", "times")]), "times is times times times")
        self.assertEqual(problem_text([("bound", "none", None, None)]), "none from none to none")
        self.assertEqual(problem_text([("given", "is", (1,))]), "is is 1")
        self.assertEqual(problem_text([("square", "the", "of")]), "the is the square of of")

    def test_kind(self):
        self.assertIs(type(problem_text([])), str)
        self.assertIs(type(problem_text(FIELD)), str)

    def test_argument_by_name(self):
        self.assertEqual(problem_text(problem=[]), "")


class Read(unittest.TestCase):

    def assert_bad(self, text, row):
        with self.assertRaises(BadText) as caught:
            problem_of(text)
        self.assertIs(type(caught.exception), BadText)
        self.assertEqual(caught.exception.row, row, text)

    def test_the_empty_text(self):
        self.assertEqual(problem_of(""), [])

    def test_each_sort_of_line(self):
        for line, step in LINES.items():
            with self.subTest(line=line):
                self.assertEqual(problem_of(line), [step])

    def test_several_lines(self):
        self.assertEqual(problem_of("\n".join(LINES)), list(LINES.values()))

    def test_each_size(self):
        for size in range(-6, 7):
            self.assertEqual(problem_of(f"a from 1 at {size} to 2 at {size}"),
                             [("bound", "a", ((1,), size), ((2,), size))])

    def test_lines_that_are_no_step_by_themselves(self):
        for line in NO_STEPS:
            with self.subTest(line=line):
                if line != "":
                    self.assert_bad(line, 0)
                self.assert_bad("a is 1\n" + line, 1)
                self.assert_bad(line + "\na is 1", 0)
                self.assert_bad("a is 1\nb is 2\nc is a and b\n" + line + "\nd is 1", 3)

    def test_the_first_of_several_such_lines(self):
        good = list(LINES)
        for at in range(5):
            for first in NO_STEPS[::7]:
                for second in NO_STEPS[3::11]:
                    self.assert_bad("\n".join(good[:at] + [first, good[at], second]), at)

    def test_an_empty_line(self):
        self.assert_bad("\n", 0)
        self.assert_bad("\n\n\n", 0)
        self.assert_bad("\na is 1", 0)
        self.assert_bad("a is 1\n", 1)
        self.assert_bad("a is 1\n\nb is 1", 1)
        self.assert_bad("a is 1\nb is 1\n\n", 2)

    def test_line_ends_are_no_blanks(self):
        self.assert_bad("a\nis 1", 0)
        self.assert_bad("a is\n1", 0)
        self.assert_bad("a is 1\n2", 1)

    def test_each_sign_by_itself_and_at_the_ends(self):
        for code in range(32, 127):
            sign = chr(code)
            self.assert_bad(sign, 0)
            if not sign.isdigit():
                self.assert_bad("a is 1" + sign, 0)
            if not ("a" <= sign <= "z"):
                self.assert_bad(sign + "a is 1", 0)
                self.assert_bad("b is a times a" + sign, 0)

    def test_names_that_do_not_stand(self):
        self.assertEqual(problem_of("c is a times b"), [("times", "c", "a", "b")])
        self.assertEqual(problem_of("a from none to none"), [("bound", "a", None, None)])
        self.assertEqual(problem_of("a is 1\na is 1"), [("given", "a", (1,))] * 2)
        self.assertEqual(problem_of("a is the side of a"), [("side", "a", "a")])

    def test_steps_that_are_bad_only_beside_others(self):
        fives = "\n".join(f"{name} is 1" for name in "abcde")
        self.assertEqual(problem_of(fives), [("given", name, (1,)) for name in "abcde"])
        self.assertEqual(problem_of("\n".join(["a from none to none"] * 21)), [("bound", "a", None, None)] * 21)

    def test_bounds_that_nothing_keeps(self):
        self.assertEqual(problem_of("a from 2 at 0 to 1 at 0"), [("bound", "a", ((2,), 0), ((1,), 0))])

    def test_kinds(self):
        told = problem_of("a is 1 2\na from 1 at 0 to none")
        self.assertIs(type(told), list)
        self.assertEqual([type(step) for step in told], [tuple, tuple])
        self.assertIs(type(told[0][2]), tuple)
        self.assertEqual([type(item) for item in told[1][2]], [tuple, int])
        self.assertIs(type(told[1][2]), tuple)

    def test_argument_by_name(self):
        self.assertEqual(problem_of(text=""), [])


class WrittenAndRead(unittest.TestCase):

    def assert_same(self, problem):
        self.assertEqual(problem_of(problem_text(problem)), problem)

    def test_the_samples(self):
        for name, problem in PROBLEMS.items():
            with self.subTest(name=name):
                self.assert_same(problem)

    def test_names_that_mean_something_else(self):
        for name in ODD:
            for one in ODD:
                self.assert_same([("given", name, (1, 30)), ("bound", name, None, None),
                                  ("bound", name, ((1,), 0), ((2,), -1)), ("square", name, one), ("side", name, one)])
                for other in ODD:
                    self.assert_same([(word, name, one, other) for word in ("times", "part", "sum", "less")])

    def test_no_two_steps_of_odd_names_are_written_alike(self):
        steps = [("given", name, (1,)) for name in ODD] + [("bound", name, None, None) for name in ODD]
        steps += [(word, name, one) for word in ("square", "side") for name in ODD for one in ODD]
        steps += [(word, name, one, other) for word in ("times", "part", "sum", "less")
                  for name in ODD for one in ODD for other in ODD]
        self.assertEqual(len({problem_text([step]) for step in steps}), len(steps))

    def test_rows_and_sizes(self):
        for at, row in enumerate(some_rows(12)):
            size = at % 13 - 6
            self.assert_same([("given", "a", row), ("bound", "a", (row, size), None), ("bound", "b", None, (row, -size)),
                              ("bound", "c", (row, -size), (row, size))])

    def test_what_is_read_is_written_again(self):
        text = "\n".join(LINES)
        self.assertEqual(problem_text(problem_of(text)), text)


if __name__ == "__main__":
    unittest.main()
