"""Promise [1]: nothing handed in is changed, what is given back is the caller's, and answers stay the same."""

import copy
import unittest

from sixtyfold.errors import BadStep, BadText, NoSide, NotTurned
from sixtyfold.notes import problem_of, problem_text
from sixtyfold.problems import answers, ways
from sixtyfold.rows import cast, read, times, written
from sixtyfold.slips import slips
from sixtyfold.squares import near_side, side, squared
from sixtyfold.tables import faults, head_of, table
from sixtyfold.turning import factors, part, turnables, turned
from tests.problems import FIELD, FOUR_GIVEN, NO_WAY

ONE = (1, 0, 30)
OTHER = (1, 21)

RIGHT = table(ONE)
FAULTY = [(1, 30)] + RIGHT[1:20] + [(), (60,), (1, 0, 30)]

QUESTIONS = {
    "times": lambda: times(ONE, OTHER),
    "cast": lambda: cast(ONE),
    "written": lambda: written(ONE),
    "read": lambda: read("1 0 30"),
    "factors": lambda: factors(ONE),
    "part": lambda: part(ONE, OTHER),
    "turned": lambda: turned(OTHER),
    "turnables of 1": lambda: turnables(1),
    "turnables of 2": lambda: turnables(2),
    "turnables of 4": lambda: turnables(4),
    "squared": lambda: squared(ONE),
    "side": lambda: side(OTHER),
    "near_side": lambda: near_side(ONE, False, 6),
    "near_side, odd": lambda: near_side(ONE, True, 6),
    "slips": lambda: slips(ONE, (1, 30)),
    "table": lambda: table(ONE),
    "faults": lambda: faults(ONE, FAULTY),
    "no faults": lambda: faults(ONE, RIGHT),
    "head_of": lambda: head_of(FAULTY),
    "ways": lambda: ways(FIELD),
    "ways of four given": lambda: ways(FOUR_GIVEN),
    "ways of nothing": lambda: ways([]),
    "no ways": lambda: ways(NO_WAY),
    "answers, one": lambda: answers(FIELD, "area"),
    "answers, sizes": lambda: answers(FOUR_GIVEN, "a"),
    "answers, none": lambda: answers(NO_WAY, "d"),
    "problem_text": lambda: problem_text(FIELD),
    "problem_of": lambda: problem_of("a is 1\na from none to 2 at 1"),
    "problem_of the empty text": lambda: problem_of(""),
}


def spoil(told):
    """Change whatever can be changed of what was given back."""
    if isinstance(told, (list, tuple)):
        for item in told:
            spoil(item)
    if isinstance(told, dict):
        for item in told.values():
            spoil(item)
        told.clear()
        told["spoiled"] = True
    if isinstance(told, list):
        told.clear()
        told.append("spoiled")


class AskedAgain(unittest.TestCase):

    def test_the_same_answer_each_time(self):
        first = {name: copy.deepcopy(question()) for name, question in QUESTIONS.items()}
        for _ in range(3):
            for name, question in QUESTIONS.items():
                with self.subTest(name=name):
                    self.assertEqual(question(), first[name])

    def test_nothing_handed_in_is_changed(self):
        handed = (ONE, OTHER, RIGHT, FAULTY, FIELD, FOUR_GIVEN, NO_WAY)
        kept = copy.deepcopy(handed)
        for question in QUESTIONS.values():
            spoil(question())
        self.assertEqual(handed, kept)

    def test_nothing_handed_in_is_changed_ahead_of_a_refusal(self):
        problem = FIELD + [("give",)]
        kept = copy.deepcopy(problem)
        for ask in (ways, lambda asked: answers(asked, "area")):
            with self.assertRaises(BadStep):
                ask(problem)
            self.assertEqual(problem, kept)

    def test_answers_stay_when_what_was_given_back_is_changed(self):
        for name, question in QUESTIONS.items():
            with self.subTest(name=name):
                kept = copy.deepcopy(question())
                spoil(question())
                self.assertEqual(question(), kept)

    def test_answers_stay_when_what_was_handed_in_is_changed(self):
        problem, rows = list(FIELD), list(FAULTY)
        told = ways(problem), answers(FOUR_GIVEN, "a"), faults(ONE, rows), head_of(rows)
        kept = copy.deepcopy(told)
        problem.clear()
        rows.clear()
        self.assertEqual(told, kept)
        self.assertEqual(ways(problem), [{}])

    def test_the_parts_of_an_answer_do_not_hang_together(self):
        for first, second in zip(ways(FOUR_GIVEN), ways(FOUR_GIVEN)):
            self.assertEqual(first, second)
            self.assertIsNot(first, second)
        told = ways(FOUR_GIVEN)
        kept = copy.deepcopy(told)
        told[0].clear()
        self.assertEqual(told[1:], kept[1:])
        told = faults(ONE, [()] * 23)
        told[0][1].append("spoiled")
        self.assertEqual([made for _, made in told[1:]], [made for _, made in faults(ONE, [()] * 23)[1:]])

    def test_what_is_given_back_may_be_changed(self):
        for places in (1, 2, 3, 4):
            kept = list(turnables(places))
            told = turnables(places)
            told.reverse()
            told[0] = (7,)
            del told[1:]
            self.assertEqual(turnables(places), kept)
            turnables(places).clear()
            self.assertEqual(turnables(places), kept)

    def test_the_same_refusal_each_time(self):
        for _ in range(3):
            with self.assertRaises(NotTurned) as caught:
                part((11,), (1, 17))
            self.assertEqual(caught.exception.left, 7)
            caught.exception.left = 0
            with self.assertRaises(NoSide) as caught:
                side((21,))
            self.assertEqual(caught.exception.why, "three")
            caught.exception.why = ""
            with self.assertRaises(BadStep) as caught:
                ways(FIELD + [("give",)])
            self.assertEqual((caught.exception.at, caught.exception.why), (6, "word"))
            caught.exception.at = 0
            with self.assertRaises(BadText) as caught:
                problem_of("a is 1\na is 0")
            self.assertEqual(caught.exception.row, 1)
            caught.exception.row = 0


if __name__ == "__main__":
    unittest.main()
