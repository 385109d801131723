"""play where it is refused: names of no move, texts of no position, and which refusal comes first."""

import unittest

from tenrows.positions import play
from tests.asking import NO_POSITIONS, OPENING, names, played, position, signs

POINTS = [column + row for column in "abcdefghi" for row in "0123456789"]


class Names(unittest.TestCase):
    def refused(self, text, *moves):
        for move in moves:
            with self.subTest(text=text, move=move):
                self.assertEqual(played(text, move), [-4])

    def taken(self, text, *moves):
        for move in moves:
            with self.subTest(text=text, move=move):
                self.assertGreater(played(text, move)[0], 0)


class NoMove(Names):
    def test_point_outside_the_board(self):
        text = position("Ke0 kd9 Ra0 Ri9 Ra9 Ri0", "w")
        self.refused(text, "a0j0", "i0j0", "j0i0", "i9i:", "i9i10", "a9a10", "a0a/", "a0`0", "`0a0", "a0a-1", "a0k0", "z0a0")

    def test_man_of_the_other_side(self):
        self.refused(OPENING + " w", "h7e7", "a6a5", "e9e8", "b9c7")
        self.refused(OPENING + " b", "h2e2", "a3a4", "e0e1", "b0c2")

    def test_free_point(self):
        self.refused(OPENING + " w", "e4e5", "a1a2", "e1e2", "e8e7", "d4e4")
        self.refused(OPENING + " b", "e5e4", "a8a7", "e8e7", "e1e2", "d5e5")

    def test_onto_an_own_man(self):
        self.refused(OPENING + " w", "a0b0", "a0a3", "e0d0", "b0d1", "h2b2", "b2h2", "h2h0")
        self.refused(OPENING + " b", "a9b9", "a9a6", "e9d9", "h7b7", "h7h9")

    def test_from_a_point_to_itself(self):
        self.refused(OPENING + " w", *[point + point for point in POINTS])

    def test_way_the_man_does_not_go(self):
        self.refused(position("Ke0 kd9", "w"), "e0e2", "e0d1", "e0c0", "e0f1", "e0e9", "e0d9")
        self.refused(position("Ke0 kd9 Ad0", "w"), "d0d1", "d0c1", "d0f2")
        self.refused(position("Ke0 kd9 Bc4", "w"), "c4e6", "c4a6", "c4d5", "c4c2", "c4b3")
        self.refused(position("Ke0 kd9 Bc0 Pd1", "w"), "c0e2")
        self.refused(position("Ke0 kd9 Na0 Pa1", "w"), "a0b2", "a0a2", "a0b1")
        self.refused(position("Ke0 kd9 Ra0 Pa3", "w"), "a0a3", "a0a4", "a0b1", "a0e0", "a0f0")
        self.refused(position("Ke0 kd9 Ca0 pa3", "w"), "a0a3", "a0a4", "a0b1")
        self.refused(position("Ke0 kd9 Pa3", "w"), "a3b3", "a3a2", "a3a5", "a3b4")
        self.refused(position("Ke0 kd9 Pa5", "w"), "a5a4", "a5c5", "a5b6")

    def test_own_general_left_where_it_could_be_taken(self):
        # The chariot at e3 may go along its column alone: else the one at e7 could go to e0.
        text = position("Ke0 kd9 Re3 re7", "w")
        self.refused(text, "e3d3", "e3a3", "e3i3")
        self.taken(text, "e3e1", "e3e7", "e0f0")
        self.refused(text, "e0d0")
        # Two generals who would see one another.
        self.refused(position("Ke0 kd9", "w"), "e0d0")
        self.refused(position("Ke0 ke9 Pe5", "w"), "e5d5", "e5f5")
        self.refused(position("Ke0 ke9 pe4", "b"), "e4d4", "e4f4")
        # Who could be taken must mend it.
        self.refused(position("Ke0 kd9 re5 Na4", "w"), "a4b6", "e0e1", "e0d0")
        self.taken(position("Ke0 kd9 re5 Na4", "w"), "e0f0")

    def test_where_no_move_is(self):
        lost = position("Ke0 kd9 ra0 rb1", "w")
        self.assertEqual(names(lost), [])
        self.refused(lost, "e0d0", "e0f0", "e0e1", "e0e0", "", "a0e0")


class NoName(Names):
    def test_capitals(self):
        self.refused(OPENING + " w", "H2E2", "H2e2", "h2E2", "E0E1")

    def test_cut_short(self):
        self.refused(OPENING + " w", "", "h", "h2", "h2e", "2e2", "e2")

    def test_something_behind_or_ahead(self):
        self.refused(OPENING + " w", "h2e2 ", "h2e2\n", "h2e2h", "h2e2h2e2", "h2e2\0", " h2e2", "\nh2e2", "h2-e2", "h2 e2",
                     "h2e2h9g7", "h2e2+", "h2xe2", "Ch2e2")

    def test_turned_round(self):
        self.refused(OPENING + " w", "e2h2", "2h2e", "he22", "22he")

    def test_256_bytes(self):
        self.refused(OPENING + " w", "h2e2" * 64, "h2e2".ljust(256), "h2e2".rjust(256), "x" * 256, "h2e2" + "\0" * 252)
        for byte in (0, 50, 255):
            self.assertEqual(play(65536, signs(OPENING + " w"), [byte] * 256), [-4])
        self.assertEqual(play(65536, signs(OPENING + " w"), list(range(256))), [-4])

    def test_every_byte_at_every_place(self):
        text = position("Ke0 kd9 Rb3", "w")
        there = names(text)
        for place in range(4):
            for byte in range(256):
                name = signs("b3b7")
                name[place] = byte
                good = bytes(name).decode("latin-1") in there
                self.assertEqual(play(65536, signs(text), name) == [-4], not good, name)

    def test_every_name(self):
        for text in (position("Kd1 kd8 Cb3 nb5", "w"), position("Kd1 kd8 Pe5 ce7", "b")):
            there = [start + end for start in POINTS for end in POINTS if played(text, start + end) != [-4]]
            self.assertEqual(there, names(text))


class Refusals(unittest.TestCase):
    def test_wrong_texts(self):
        for text in NO_POSITIONS:
            for move in ("h2e2", "h2e3", "", "x" * 256):
                for most in (65536, 1, 0):
                    with self.subTest(text=text, move=move, most=most):
                        self.assertEqual(played(text, move, most), [-3])

    def test_range_before_all_else(self):
        for most in (-1, 65537, -2147483648, 2147483647):
            for text in NO_POSITIONS + (OPENING + " w", OPENING + " b"):
                for move in ("h2e2", "h2e3", "", "x" * 256):
                    with self.subTest(text=text, move=move, most=most):
                        self.assertEqual(played(text, move, most), [-2])

    def test_name_before_too_long(self):
        for most in (0, 1, 60, 65536):
            for move in ("h2e3", "", "h2e2 ", "x" * 256):
                with self.subTest(move=move, most=most):
                    self.assertEqual(played(OPENING + " w", move, most), [-4])

    def test_too_long_last(self):
        for most in (0, 1, 60):
            self.assertEqual(played(OPENING + " w", "h2e2", most), [-1])

    def test_every_text_cut_short(self):
        text = OPENING + " w"
        for size in range(len(text)):
            self.assertEqual(played(text[:size], "h2e2"), [-3])


if __name__ == "__main__":
    unittest.main()
