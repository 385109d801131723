"""The four calls together: how they are called, and that none of them minds which were called before it."""

import inspect
import itertools
import unittest

from tenrows import positions
from tests.asking import NO_POSITIONS, OPENING, answer, counted, names, played, position, signs, winning, whole, won

TEXT = position("Kd2 ke8 Rb0", "w")
TOLD = "-\n" + "".join(f"b0{end}\n" for end in
                       "a0 b1 b2 b3 b4 b5 b6 b7 b8 b9 c0 d0 e0 f0 g0 h0 i0".split()) + "d2d1\n"
CALLS = {
    "moves": (lambda: positions.moves(0, 65536, signs(TEXT)), whole(TOLD)),
    "play": (lambda: positions.play(65536, signs(TEXT), signs("b0b8")), whole("9/1R2k4/9/9/9/9/9/3K5/9/9 b")),
    "count": (lambda: positions.count(0, 1, signs(TEXT)), [18]),
    "win": (lambda: positions.win(0, 2, signs(TEXT)), winning(2, "b0b8")),
}


class Interface(unittest.TestCase):
    def test_names_and_what_is_handed_in(self):
        for name, handed in (
            ("moves", ["k", "most", "text"]), ("play", ["most", "text", "move"]),
            ("count", ["k", "depth", "text"]), ("win", ["k", "most", "text"]),
        ):
            with self.subTest(name=name):
                self.assertEqual(list(inspect.signature(getattr(positions, name)).parameters), handed)


class OneAfterAnother(unittest.TestCase):
    def test_in_any_order(self):
        for order in itertools.permutations(CALLS):
            for name in order + order:
                call, expected = CALLS[name]
                with self.subTest(order=order, name=name):
                    self.assertEqual(call(), expected)

    def test_refused_between(self):
        for name, (call, expected) in CALLS.items():
            with self.subTest(name=name):
                self.assertEqual(answer(TEXT, -1), [-2])
                self.assertEqual(played("", "b0b8"), [-3])
                self.assertEqual(played(TEXT, "b0d1"), [-4])
                self.assertEqual(counted(TEXT, 6), [-2])
                self.assertEqual(won("x"), [-3])
                self.assertEqual(call(), expected)

    def test_the_same_list_for_all(self):
        for text in (TEXT, OPENING + " b", position("Ke0 ke9", "b")):
            given = signs(text)
            positions.moves(0, 65536, given)
            positions.play(65536, given, signs(names(text)[0]))
            positions.count(0, 2, given)
            positions.win(0, 1, given)
            self.assertEqual(given, signs(text))
            self.assertEqual(positions.moves(0, 65536, given), answer(text))

    def test_wrong_texts_are_the_same_for_all(self):
        for text in NO_POSITIONS:
            with self.subTest(text=text):
                self.assertEqual([answer(text), played(text, "h2e2"), counted(text, 0), won(text, 1)], [[-3]] * 4)

    def test_a_win_is_a_move_that_is_told_and_can_be_played(self):
        for men, side in (("Kd2 ke8 Rb0", "w"), ("Kd2 kf7 Ni4", "w"), ("Ke0 ke9", "b"), ("Kd2 kf8 ch4 nb6", "b")):
            text = position(men, side)
            move = bytes(won(text)[1:]).decode("ascii")
            self.assertIn(move, names(text))
            self.assertGreater(played(text, move)[0], 0)


if __name__ == "__main__":
    unittest.main()
