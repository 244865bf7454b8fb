"""Promise [1]: nothing handed in is changed, what is given back is the caller's, and answers stay the same."""

import copy
import unittest

from sixtyfold.errors import NoSide, NotTurned
from sixtyfold.rows import cast, read, times, written
from sixtyfold.squares import near_side, side, squared
from sixtyfold.turning import factors, part, turnables, turned

ONE = (1, 0, 30)
OTHER = (1, 21)

QUESTIONS = {
    "times": lambda: times(ONE, OTHER),
    "cast": lambda: cast(ONE),
    "written": lambda: written(ONE),
    "read": lambda: read("1 0 30"),
    "factors": lambda: factors(ONE),
    "part": lambda: part(ONE, OTHER),
    "turned": lambda: turned(OTHER),
    "turnables of 1": lambda: turnables(1),
    "turnables of 2": lambda: turnables(2),
    "turnables of 4": lambda: turnables(4),
    "squared": lambda: squared(ONE),
    "side": lambda: side(OTHER),
    "near_side": lambda: near_side(ONE, False, 6),
    "near_side, odd": lambda: near_side(ONE, True, 6),
}


class AskedAgain(unittest.TestCase):

    def test_the_same_answer_each_time(self):
        first = {name: copy.deepcopy(question()) for name, question in QUESTIONS.items()}
        for _ in range(3):
            for name, question in QUESTIONS.items():
                with self.subTest(name=name):
                    self.assertEqual(question(), first[name])

    def test_nothing_handed_in_is_changed(self):
        for question in QUESTIONS.values():
            question()
        self.assertEqual((ONE, OTHER), ((1, 0, 30), (1, 21)))

    def test_what_is_given_back_may_be_changed(self):
        for places in (1, 2, 3, 4):
            kept = list(turnables(places))
            told = turnables(places)
            told.reverse()
            told[0] = (7,)
            del told[1:]
            self.assertEqual(turnables(places), kept)
            turnables(places).clear()
            self.assertEqual(turnables(places), kept)

    def test_the_same_refusal_each_time(self):
        for _ in range(3):
            with self.assertRaises(NotTurned) as caught:
                part((11,), (1, 17))
            self.assertEqual(caught.exception.left, 7)
            caught.exception.left = 0
            with self.assertRaises(NoSide) as caught:
                side((21,))
            self.assertEqual(caught.exception.why, "three")
            caught.exception.why = ""


if __name__ == "__main__":
    unittest.main()
