"""moves at whole positions: the whole answer, its order, its size, and what is kept."""

import contextlib
import io
import unittest

from tenrows.positions import moves
from tests.asking import OPENING, Fixed, after, answer, mark, names, position, signs, told

RED_OPENING_MOVES = """
    a0a1 a0a2 a3a4 b0a2 b0c2 b2a2 b2b1 b2b3 b2b4 b2b5 b2b6 b2b9 b2c2 b2d2 b2e2 b2f2 b2g2
    c0a2 c0e2 c3c4 d0e1 e0e1 e3e4 f0e1 g0e2 g0i2 g3g4 h0g2 h0i2
    h2c2 h2d2 h2e2 h2f2 h2g2 h2h1 h2h3 h2h4 h2h5 h2h6 h2h9 h2i2 i0i1 i0i2 i3i4
"""
BLACK_OPENING_MOVES = """
    a6a5 a9a7 a9a8 b7a7 b7b0 b7b3 b7b4 b7b5 b7b6 b7b8 b7c7 b7d7 b7e7 b7f7 b7g7 b9a7 b9c7
    c6c5 c9a7 c9e7 d9e8 e6e5 e9e8 f9e8 g6g5 g9e7 g9i7
    h7c7 h7d7 h7e7 h7f7 h7g7 h7h0 h7h3 h7h4 h7h5 h7h6 h7h8 h7i7 h9g7 h9i7 i6i5 i9i7 i9i8
"""


class WholePositions(unittest.TestCase):
    def test_opening_red_goes(self):
        expected = "-\n" + "\n".join(RED_OPENING_MOVES.split()) + "\n"
        self.assertEqual(len(expected), 2 + 44 * 5)
        self.assertEqual(answer(OPENING + " w"), [222] + signs(expected))

    def test_opening_black_goes(self):
        expected = "-\n" + "\n".join(BLACK_OPENING_MOVES.split()) + "\n"
        self.assertEqual(answer(OPENING + " b"), [222] + signs(expected))

    def test_generals_alone(self):
        men = "Kd0 kf9"
        self.assertEqual(answer(position(men, "w")), [12] + signs("-\nd0d1\nd0e0\n"))
        self.assertEqual(answer(position(men, "b")), [12] + signs("-\nf9e9\nf9f8\n"))

    def test_answer_number_by_number(self):
        text = position("Kd0 ke9", "w")
        self.assertEqual(answer(text), [7, 45, 10, 100, 48, 100, 49, 10])

    def test_few_men_red_goes(self):
        text = position("Ke0 Pe5 kd9 pa1", "w")
        self.assertEqual(told(text), "-\ne0e1\ne0f0\ne5d5\ne5e6\ne5f5\n")

    def test_few_men_black_goes(self):
        text = position("Ke0 Pe5 kd9 pa1", "b")
        self.assertEqual(told(text), "-\na1a0\na1b1\nd9d8\nd9e9\n")

    def test_how_many_follow(self):
        counts = (
            (OPENING + " w", 44, 1920),
            ("r1ba1a3/4kn3/2n1b4/pNp1p1p1p/4c4/6P2/P1P2R2P/1CcC5/9/2BAKAB2 w", 38, 1128),
            ("1cbak4/9/n2a5/2p1p3p/5cp2/2n2N3/6PCP/3AB4/2C6/3A1K1N1 w", 7, 281),
            ("5a3/3k5/3aR4/9/5r3/5n3/9/3A1A3/5K3/2BC2B2 w", 25, 424),
            ("C1nNk4/9/9/9/9/9/n1pp5/B3C4/9/3A1K3 w", 28, 222),
            ("1C2ka3/9/C1Nab1n2/p3p3p/6p2/9/P3P3P/3AB4/3p2c2/c1BAK4 w", 30, 830),
        )
        for text, first, second in counts:
            with self.subTest(text=text):
                following = [len(names(after(text, move))) for move in names(text)]
                self.assertEqual((len(following), sum(following)), (first, second))


class Order(unittest.TestCase):
    def test_order_is_that_of_the_bytes(self):
        texts = (OPENING + " w", OPENING + " b", position("Ke0 kd9 Ra0 Ri9 Ne4 Cc7 Pb5", "w"))
        for text in texts:
            with self.subTest(text=text):
                self.assertEqual(names(text), sorted(set(names(text))))

    def test_column_before_row_at_both_ends(self):
        text = position("Kd0 ke9 Pa9 Pb5 Pa5", "w")
        self.assertEqual(names(text), "a5a6 a9b9 b5b6 b5c5 d0d1".split())

    def test_end_column_before_end_row(self):
        text = position("Kd0 kf9 Nb4", "w")
        self.assertEqual(names(text)[:6], "b4a2 b4a6 b4c2 b4c6 b4d3 b4d5".split())


class Most(unittest.TestCase):
    def test_most_in_its_range(self):
        text = OPENING + " w"
        whole = answer(text, 65536)
        self.assertEqual(whole[0], 222)
        self.assertEqual(answer(text, 222), whole)
        self.assertEqual(answer(text, 223), whole)
        for most in (221, 220, 2, 1, 0):
            with self.subTest(most=most):
                self.assertEqual(answer(text, most), [-1])

    def test_most_where_no_move_is(self):
        lost = position("Ke0 kd9 ra0 rb1", "w")
        self.assertEqual(answer(lost, 2), [2, 43, 10])
        self.assertEqual(answer(lost, 1), [-1])
        self.assertEqual(answer(lost, 0), [-1])

    def test_most_out_of_its_range(self):
        for most in (-1, 65537, -2147483648, 2147483647):
            with self.subTest(most=most):
                self.assertEqual(answer(OPENING + " w", most), [-2])


class Refusals(unittest.TestCase):
    def test_range_before_text(self):
        for most in (-1, 65537, -2147483648, 2147483647):
            for text in ("", "x", OPENING, OPENING + " x", "x" * 256):
                with self.subTest(most=most, text=text):
                    self.assertEqual(answer(text, most), [-2])

    def test_text_before_too_long(self):
        for most in (0, 1, 65536):
            for text in ("", "x", OPENING, OPENING + " x", "x" * 256):
                with self.subTest(most=most, text=text):
                    self.assertEqual(answer(text, most), [-3])


class NothingElse(unittest.TestCase):
    def test_k_is_not_looked_at(self):
        for k in (0, 1, -1, 65, 256, 257, -2147483648, 2147483647):
            with self.subTest(k=k):
                self.assertEqual(answer(OPENING + " b", 65536, k), answer(OPENING + " b"))
                self.assertEqual(answer(OPENING, 65536, k), [-3])
                self.assertEqual(answer(OPENING + " b", -1, k), [-2])
                self.assertEqual(answer(OPENING + " b", 3, k), [-1])

    def test_list_handed_in_stays(self):
        for text in (OPENING + " w", OPENING, "", position("Ke0 ke9", "b"), "x" * 256):
            for most in (65536, 0, -1):
                with self.subTest(text=text, most=most):
                    given = signs(text)
                    moves(0, most, given)
                    self.assertEqual(given, signs(text))

    def test_list_handed_in_is_never_written_to(self):
        for text in (OPENING + " w", OPENING, "", position("Ke0 ke9", "b")):
            self.assertEqual(moves(0, 65536, Fixed(signs(text))), answer(text))

    def test_nothing_is_kept(self):
        first = answer(OPENING + " w")
        kept = list(first)
        first.append(7)
        first[0] = -9
        answer(position("Ke0 ke9", "b"))
        answer("")
        self.assertEqual(answer(OPENING + " w"), kept)

    def test_kinds(self):
        for given in (answer(OPENING + " w"), answer(""), answer(OPENING + " w", 0), answer(OPENING + " w", -1)):
            self.assertIs(type(given), list)
            self.assertEqual({type(number) for number in given}, {int})

    def test_names_of_what_is_handed_in(self):
        self.assertEqual(moves(k=3, most=65536, text=signs(OPENING + " w")), answer(OPENING + " w"))
        self.assertEqual(moves(3, 65536, signs(OPENING + " w")), answer(OPENING + " w"))

    def test_nothing_is_printed(self):
        out = io.StringIO()
        with contextlib.redirect_stdout(out), contextlib.redirect_stderr(out):
            answer(OPENING + " w")
            answer("")
        self.assertEqual(out.getvalue(), "")

    def test_mark_at_the_opening(self):
        self.assertEqual(mark(OPENING + " w"), "-")
        self.assertEqual(mark(OPENING + " b"), "-")


if __name__ == "__main__":
    unittest.main()
