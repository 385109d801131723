"""Each kind of man by itself: where it may go, and where not."""

import unittest

from tests.asking import ends, position

# Generals that neither see one another nor stand in the way of what is tried.
RED_CORNER = "Kd0 kf9 "


class Men(unittest.TestCase):
    def check(self, men, side, start, expected):
        self.assertEqual(ends(position(men, side), start), expected)


class General(Men):
    def test_middle_of_the_palace(self):
        self.check("Ke1 kd9", "w", "e1", "e0 e2 f1")
        self.check("Ke1 kd9 Pd5", "w", "e1", "d1 e0 e2 f1")
        self.check("Kd0 ke8 Pd5", "b", "e8", "d8 e7 e9 f8")

    def test_edges_of_the_palace(self):
        self.check("Kd0 ke9", "w", "d0", "d1")
        self.check("Kd2 kf9", "w", "d2", "d1 e2")
        self.check("Kf2 kd9", "w", "f2", "e2 f1")
        self.check("Kf0 kd9", "w", "f0", "e0 f1")
        self.check("Kf0 kd7", "b", "d7", "d8 e7")
        self.check("Kd0 kf7", "b", "f7", "e7 f8")
        self.check("Kd0 kf9", "b", "f9", "e9 f8")
        self.check("Kf0 kd9", "b", "d9", "d8 e9")

    def test_own_man_and_other_man(self):
        self.check("Ke0 Ad0 kf9 pe1", "w", "e0", "e1")
        self.check("Ke0 ad0 kf9 Pe1", "w", "e0", "d0")

    def test_not_slantwise(self):
        self.check("Ke1 Ad1 Af1 Pe2 Pe0 kd9", "w", "e1", "")


class Guard(Men):
    def test_middle_and_corner(self):
        self.check("Ke0 kd9 Pe4 Ae1", "w", "e1", "d0 d2 f0 f2")
        self.check("Ke0 kd9 Ad2", "w", "d2", "e1")
        self.check("Ke0 kd9 af9", "b", "f9", "e8")
        self.check("Kf0 ke9 Pe4 ae8", "b", "e8", "d7 d9 f7 f9")

    def test_not_out_of_the_palace(self):
        self.check("Ke0 kd9 Af2", "w", "f2", "e1")
        self.check("Ke0 kd9 Ae2", "w", "e2", "d1 f1")
        self.check("Kf0 kd9 ae7", "b", "e7", "d8 f8")
        self.check("Kf0 kd9 Ad1", "w", "d1", "e0 e2")

    def test_from_outside_into_the_palace(self):
        self.check("Ke0 kd9 Ac3", "w", "c3", "d2")
        self.check("Ke0 kd9 Ae3", "w", "e3", "d2 f2")
        self.check("Ke0 kd9 Ag1", "w", "g1", "f0 f2")
        self.check("Kf0 ke9 ac8", "b", "c8", "d7 d9")
        self.check("Kf0 ke9 ae6", "b", "e6", "d7 f7")

    def test_far_outside_it_stays(self):
        self.check("Ke0 kd9 Aa5", "w", "a5", "")
        self.check("Ke0 kd9 Ae8", "w", "e8", "")
        self.check("Ke0 kd9 ae1 Pe4", "b", "e1", "")

    def test_own_man_and_other_man(self):
        self.check("Ke0 kd9 Ad2 Pe1", "w", "d2", "")
        self.check("Ke0 kd9 Ad2 ae1", "w", "d2", "e1")


class Elephant(Men):
    def test_own_side(self):
        self.check("Ke0 kd9 Be2", "w", "e2", "c0 c4 g0 g4")
        self.check("Ke0 kd9 Ba2", "w", "a2", "c0 c4")
        self.check("Ke0 kd9 Bi2", "w", "i2", "g0 g4")
        self.check("Ke0 kd9 be7", "b", "e7", "c5 c9 g5 g9")

    def test_not_across_the_river(self):
        self.check("Ke0 kd9 Bc4", "w", "c4", "a2 e2")
        self.check("Ke0 kd9 Bc3", "w", "c3", "a1 e1")
        self.check("Ke0 kd9 bc5", "b", "c5", "a7 e7")
        self.check("Ke0 kd9 bc6", "b", "c6", "a8 e8")

    def test_back_across_the_river(self):
        self.check("Ke0 kd9 Bc6", "w", "c6", "a4 e4")
        self.check("Ke0 kd9 Bc5", "w", "c5", "a3 e3")
        self.check("Ke0 kd9 Bc7", "w", "c7", "")
        self.check("Ke0 kd9 bc3", "b", "c3", "a5 e5")
        self.check("Ke0 kd9 bc2", "b", "c2", "")

    def test_point_between(self):
        self.check("Ke0 kd9 Be2 Pd3", "w", "e2", "c0 g0 g4")
        self.check("Ke0 kd9 Be2 pf3", "w", "e2", "c0 c4 g0")
        self.check("Ke0 kd9 Be2 Ad1 Af1", "w", "e2", "c4 g4")
        self.check("Ke0 kd9 Be2 Pd2 Pe3", "w", "e2", "c0 c4 g0 g4")

    def test_own_man_and_other_man(self):
        self.check("Ke0 kd9 Be2 Pc4 pg4", "w", "e2", "c0 g0 g4")


class Horse(Men):
    def test_middle(self):
        self.check(RED_CORNER + "Nb4", "w", "b4", "a2 a6 c2 c6 d3 d5")
        self.check(RED_CORNER + "Ne4", "w", "e4", "c3 c5 d2 d6 f2 f6 g3 g5")
        self.check(RED_CORNER + "ne5", "b", "e5", "c4 c6 d3 d7 f3 f7 g4 g6")

    def test_corners(self):
        self.check(RED_CORNER + "Na0", "w", "a0", "b2 c1")
        self.check(RED_CORNER + "Ni0", "w", "i0", "g1 h2")
        self.check(RED_CORNER + "Na9", "w", "a9", "b7 c8")
        self.check(RED_CORNER + "Ni9", "w", "i9", "g8 h7")

    def test_point_beside_it(self):
        self.check(RED_CORNER + "Ne4 Pe5", "w", "e4", "c3 c5 d2 f2 g3 g5")
        self.check(RED_CORNER + "Ne4 pe3", "w", "e4", "c3 c5 d6 f6 g3 g5")
        self.check(RED_CORNER + "Ne4 Pd4", "w", "e4", "d2 d6 f2 f6 g3 g5")
        self.check(RED_CORNER + "Ne4 pf4", "w", "e4", "c3 c5 d2 d6 f2 f6")
        self.check(RED_CORNER + "Ne4 Pe5 Pe3 Pd4 Pf4", "w", "e4", "")

    def test_other_points_do_not_hinder(self):
        self.check(RED_CORNER + "Ne4 Pd5 Pf5 pd3 pf3 Pe6", "w", "e4", "c3 c5 d2 d6 f2 f6 g3 g5")

    def test_own_man_and_other_man(self):
        self.check(RED_CORNER + "Ne4 Pd6 pf6", "w", "e4", "c3 c5 d2 f2 f6 g3 g5")


class Chariot(Men):
    def test_free_lines(self):
        self.check(RED_CORNER + "Rb4", "w", "b4", "a4 b0 b1 b2 b3 b5 b6 b7 b8 b9 c4 d4 e4 f4 g4 h4 i4")
        self.check(RED_CORNER + "ra5", "b", "a5", "a0 a1 a2 a3 a4 a6 a7 a8 a9 b5 c5 d5 e5 f5 g5 h5 i5")

    def test_own_man_and_other_man(self):
        self.check(RED_CORNER + "Rb4 Pb6 pb2 Pa4 pe4", "w", "b4", "b2 b3 b5 c4 d4 e4")

    def test_not_over_a_man(self):
        self.check(RED_CORNER + "Rb4 pb5 pb7 pb3 pb1 pa4 Pc4", "w", "b4", "a4 b3 b5")

    def test_corner(self):
        self.check(RED_CORNER + "Ri9 Pi7 Pg9", "w", "i9", "h9 i8")

    def test_takes_the_general_too(self):
        self.check(RED_CORNER + "Ri9 Pi7", "w", "i9", "f9 g9 h9 i8")


class Cannon(Men):
    def test_free_lines(self):
        self.check(RED_CORNER + "Cb4", "w", "b4", "a4 b0 b1 b2 b3 b5 b6 b7 b8 b9 c4 d4 e4 f4 g4 h4 i4")

    def test_no_man_between_takes_none(self):
        self.check(RED_CORNER + "Cb4 pb6 pb2 pa4 pe4", "w", "b4", "b3 b5 c4 d4")

    def test_one_man_between(self):
        self.check(RED_CORNER + "Cb4 Pb5 pb9 pb3 pb1 Pd4 ph4 Pa4", "w", "b4", "b1 b9 c4 h4")

    def test_one_man_between_own_man_at_the_end(self):
        self.check(RED_CORNER + "Cb4 Pb5 Pb9 pb3 Pb1 Pa4 pc4 Pi4", "w", "b4", "")

    def test_one_man_between_free_points_behind(self):
        self.check(RED_CORNER + "Cb4 Pb5 pb3 Pa4 pc4", "w", "b4", "")

    def test_two_men_between(self):
        self.check(RED_CORNER + "Cb4 Pb5 Pb7 pb9 pb3 Pb2 pb0 Pa4 pc4 Pd4 pi4", "w", "b4", "")
        self.check(RED_CORNER + "Cb4 Pb5 pb7 pb9 Pa4 Pc4 Pb3", "w", "b4", "b7")

    def test_black(self):
        self.check(RED_CORNER + "cb5 Pb4 Pb0 pa5 pb6 rb8 Pc5 pi5", "b", "b5", "b0")


class Soldier(Men):
    def test_red(self):
        for start, expected in (
            ("a0", "a1"), ("a3", "a4"), ("b4", "b5"), ("b5", "a5 b6 c5"), ("a5", "a6 b5"), ("i6", "h6 i7"),
            ("b9", "a9 c9"), ("a9", "b9"), ("i9", "h9"), ("i4", "i5"),
        ):
            with self.subTest(start=start):
                self.check(RED_CORNER + "P" + start, "w", start, expected)

    def test_black(self):
        for start, expected in (
            ("a9", "a8"), ("a6", "a5"), ("b5", "b4"), ("b4", "a4 b3 c4"), ("a4", "a3 b4"), ("i3", "h3 i2"),
            ("b0", "a0 c0"), ("a0", "b0"), ("i0", "h0"), ("i5", "i4"),
        ):
            with self.subTest(start=start):
                self.check(RED_CORNER + "p" + start, "b", start, expected)

    def test_own_man_and_other_man(self):
        self.check(RED_CORNER + "Pb5 pb6 Nc5 na5", "w", "b5", "a5 b6")
        self.check(RED_CORNER + "Pb3 pb4", "w", "b3", "b4")
        self.check(RED_CORNER + "Pb3 Cb4", "w", "b3", "")
        self.check(RED_CORNER + "pb4 Pb3 nc4 Na4", "b", "b4", "a4 b3")


if __name__ == "__main__":
    unittest.main()
