"""The + and the -, the moves that leave the own general where it could be gone to, and generals that see one another."""

import unittest

from tests.asking import ends, mark, names, position, told


class Marks(unittest.TestCase):
    def check(self, men, side, expected):
        self.assertEqual(mark(position(men, side)), expected)

    def test_chariot(self):
        self.check("Ke0 kd9 re6", "w", "+")
        self.check("Ke0 kd9 re6 Pe3", "w", "-")
        self.check("Ke0 kd9 re6 pe3", "w", "-")
        self.check("Ke0 kd9 ra0", "w", "+")
        self.check("Ke0 kd9 rf6", "w", "-")

    def test_cannon(self):
        self.check("Ke0 kd9 ce6", "w", "-")
        self.check("Ke0 kd9 ce6 Pe3", "w", "+")
        self.check("Ke0 kd9 ce6 pe3", "w", "+")
        self.check("Ke0 kd9 ce6 pe3 Pe4", "w", "-")

    def test_horse(self):
        self.check("Ke0 kd9 nd2", "w", "+")
        self.check("Ke0 kd9 nd2 Ad1", "w", "-")
        self.check("Ke0 kd9 nd2 Ae1 Pe2", "w", "+")
        self.check("Ke0 kd9 nc1", "w", "+")
        self.check("Ke0 kd9 nc1 Ad1", "w", "-")
        self.check("Ke0 kd9 nc1 Ad0", "w", "+")

    def test_soldier(self):
        self.check("Ke1 kd9 pe2", "w", "+")
        self.check("Ke1 kd9 pd1", "w", "+")
        self.check("Ke1 kd9 pf1", "w", "+")
        self.check("Ke1 kd9 pe0", "w", "-")
        self.check("Ke1 kd9 pd2", "w", "-")
        self.check("Ke1 kd9 pe3", "w", "-")

    def test_guard_and_elephant_do_not_reach_the_other_palace(self):
        self.check("Ke1 kd9 ad2", "w", "-")
        self.check("Ke1 kd9 bc3", "w", "-")

    def test_own_men_do_not_count(self):
        self.check("Ke0 kd9 Re6 Na4 Pe1", "w", "-")

    def test_black(self):
        self.check("Kd0 ke9 Re3", "b", "+")
        self.check("Kd0 ke9 Re3 Pe5", "b", "-")
        self.check("Kd0 ke9 Ce3 pe5", "b", "+")
        self.check("Kd0 ke9 Nd7", "b", "+")
        self.check("Kd0 ke9 Pe8", "b", "+")
        self.check("Kd0 ke8 Pd8", "b", "+")
        self.check("Kd0 ke8 Pe9", "b", "-")

    def test_mark_is_of_who_goes(self):
        self.check("Ke0 kd9 re6", "b", "-")
        self.check("Kd0 ke9 Re3", "w", "-")

    def test_a_man_that_may_not_leave_its_general_counts_all_the_same(self):
        men = "Ke0 kd9 nd2 Rd0"
        self.assertEqual(ends(position(men, "b"), "d2"), "")
        self.check(men, "w", "+")


class OwnGeneral(unittest.TestCase):
    def test_a_man_between_stays_on_its_line(self):
        text = position("Ke0 kd9 re6 Re3", "w")
        self.assertEqual(ends(text, "e3"), "e1 e2 e4 e5 e6")
        self.assertEqual(mark(text), "-")

    def test_a_man_between_that_has_no_way(self):
        self.assertEqual(ends(position("Ke0 kd9 re6 Ne3", "w"), "e3"), "")
        self.assertEqual(ends(position("Kd0 ke9 Re3 ne6", "b"), "e6"), "")

    def test_only_what_helps_is_told(self):
        text = position("Ke0 kd9 re6 Ra3 Pi3", "w")
        self.assertEqual(told(text), "+\na3e3\ne0f0\n")

    def test_taking_the_man(self):
        text = position("Ke0 kf9 rd5 re6 rf7 Ra6", "w")
        self.assertEqual(told(text), "+\na6e6\n")

    def test_the_general_does_not_go_where_it_could_be_taken(self):
        self.assertEqual(ends(position("Ke1 kd9 rf5", "w"), "e1"), "e0 e2")
        self.assertEqual(ends(position("Kd0 ke8 Pc7 Nd5", "b"), "e8"), "d8 e9 f8")

    def test_the_general_does_not_flee_along_the_line(self):
        self.assertEqual(told(position("Ke1 kd9 re5 Pd1 Pf1", "w")), "+\n")

    def test_the_general_takes_a_man_that_is_held(self):
        self.assertEqual(ends(position("Ke0 kf9 pe1", "w"), "e0"), "d0 e1")
        self.assertEqual(ends(position("Ke0 kf9 pe1 re8", "w"), "e0"), "d0")

    def test_a_cannon_s_man_between(self):
        text = position("Ke0 kf9 ce6 Ne3", "w")
        self.assertEqual(mark(text), "+")
        self.assertEqual(ends(text, "e3"), "c2 c4 d1 d5 f1 f5 g2 g4")
        self.assertEqual(ends(position("Ke0 kf9 ce6 Pi3", "w"), "i3"), "i4")

    def test_stepping_between_a_cannon_and_the_general(self):
        text = position("Kd0 kf9 cd6 Rb3", "w")
        self.assertEqual(ends(text, "b3"), "a3 b0 b1 b2 b4 b5 b6 b7 b8 b9 c3 e3 f3 g3 h3 i3")

    def test_a_horse_let_free(self):
        # The guard stands beside the black horse: once it goes, the horse could go to the general.
        self.assertEqual(ends(position("Ke0 kf9 nd2 Ad1", "w"), "d1"), "")

    def test_no_move_and_reached(self):
        self.assertEqual(told(position("Ke0 kd9 ra0 rb1", "w")), "+\n")

    def test_no_move_and_not_reached(self):
        self.assertEqual(told(position("Kd0 ke9 pe1", "w")), "-\n")
        self.assertEqual(told(position("Ke0 kd9 Pe8", "b")), "-\n")


class GeneralsThatSeeOneAnother(unittest.TestCase):
    def test_either_may_take_the_other(self):
        self.assertEqual(told(position("Ke0 ke9", "w")), "+\ne0d0\ne0e9\ne0f0\n")
        self.assertEqual(told(position("Ke0 ke9", "b")), "+\ne9d9\ne9e0\ne9f9\n")

    def test_at_the_nearest(self):
        self.assertEqual(told(position("Kd2 kd7", "w")), "+\nd2d7\nd2e2\n")
        self.assertEqual(told(position("Kd2 kd7", "b")), "+\nd7d2\nd7e7\n")

    def test_along_the_line_it_could_still_be_gone_to(self):
        self.assertEqual(told(position("Kf1 kf8", "w")), "+\nf1e1\nf1f8\n")

    def test_one_man_between(self):
        self.assertEqual(told(position("Ke0 ke9 Pe3", "w")), "-\ne0d0\ne0e1\ne0f0\ne3e4\n")
        self.assertEqual(told(position("Ke0 ke9 Pe3", "b")), "-\ne9d9\ne9e8\ne9f9\n")

    def test_one_man_between_does_not_leave_the_column(self):
        self.assertEqual(ends(position("Ke0 ke9 Re3", "w"), "e3"), "e1 e2 e4 e5 e6 e7 e8 e9")
        self.assertEqual(ends(position("Ke0 ke9 Ne3", "w"), "e3"), "")
        self.assertEqual(ends(position("Ke0 ke9 ne3", "b"), "e3"), "")
        self.assertEqual(ends(position("Ke0 ke9 Pe6", "w"), "e6"), "e7")

    def test_two_men_between(self):
        text = position("Ke0 ke9 Pe3 Ne5", "w")
        self.assertEqual(mark(text), "-")
        self.assertEqual(ends(text, "e5"), "c4 c6 d3 d7 f3 f7 g4 g6")
        self.assertEqual(ends(text, "e0"), "d0 e1 f0")

    def test_not_on_another_column(self):
        self.assertEqual(ends(position("Kd0 ke9 Pe1", "w"), "d0"), "d1 e0")

    def test_a_man_goes_between(self):
        text = position("Ke0 ke9 Ra4 Pi3", "w")
        self.assertEqual(names(text), "a4e4 e0d0 e0e9 e0f0".split())

    def test_the_other_general_taken_by_another_man(self):
        # Red's chariot takes the general that sees red's: then none is left that could go to red's.
        text = position("Ke0 ke9 Ra9", "w")
        self.assertEqual(ends(text, "a9"), "e9")

    def test_where_a_man_could_then_go(self):
        guarded = (
            "Ke0 ke9 ad8", "Ke0 ke9 af8", "Ke0 ke8 ad7", "Ke0 ke8 af9",
            "Ke0 ke9 bc7", "Ke0 ke9 bg7", "Kd0 kd7 bb9", "Kd0 kd7 bf5",
            "Ke0 ke9 ra9", "Ke0 ke8 re9", "Ke0 ke9 ca9 nb9", "Ke0 ke9 ca9 Pb9",
            "Ke0 ke9 nc8", "Ke0 ke9 nd7", "Ke0 ke8 pe9",
        )
        for men in guarded:
            with self.subTest(men=men):
                text = position(men, "w")
                self.assertEqual(mark(text), "+")
                self.assertNotIn(name_of_taking(men), names(text))

    def test_where_no_man_could_then_go(self):
        free = (
            "Ke0 ke9 ad9", "Ke0 ke9 ad7", "Ke0 ke8 ad8",
            "Ke0 ke9 bc7 Pd8", "Ke0 ke9 bg7 pf8", "Ke0 ke9 bc9",
            "Ke0 ke9 ra9 nb9", "Ke0 ke9 ca9", "Ke0 ke9 ca9 nb9 nc9",
            "Ke0 ke9 nc8 pd8", "Ke0 ke9 nd7 Pd8",
            "Ke0 ke8 pd8", "Ke0 ke8 pf8",
        )
        for men in free:
            with self.subTest(men=men):
                text = position(men, "w")
                self.assertEqual(mark(text), "+")
                self.assertIn(name_of_taking(men), names(text))

    def test_black_takes_where_a_man_could_then_go(self):
        for men in ("Ke0 ke9 Ad1", "Ke0 ke9 Bc2", "Ke0 ke9 Ra0", "Ke1 ke9 Pe0", "Ke0 ke9 Nd2"):
            with self.subTest(men=men):
                self.assertNotIn("e9" + men[1:3], names(position(men, "b")))
        for men in ("Ke0 ke9 Ad0", "Ke0 ke9 Bc2 Pd1", "Ke0 ke9 Ra0 Nb0", "Ke1 ke9 Pd1", "Ke0 ke9 Nd2 pd1"):
            with self.subTest(men=men):
                self.assertIn("e9" + men[1:3], names(position(men, "b")))


def name_of_taking(men):
    """The name of the move by which the first of the men takes the second."""
    return men[1:3] + men[5:7]


if __name__ == "__main__":
    unittest.main()
