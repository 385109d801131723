"""win: the whole answer, its edges and refusals, and what is handed in and given back."""

import contextlib
import io
import unittest

from tenrows.positions import win
from tests.asking import NO_POSITIONS, OPENING, Fixed, after, answer, mark, names, played, position, signs, winning, won

OUTSIDE = (0, 4, -1, -2147483648, 2147483647)
LOST = (
    position("Ke0 kd9 ra0 rb1", "w"),
    position("Ke1 kd9 re5 Pd1 Pf1", "w"),
    position("Kd0 ke9 pe1", "w"),
    position("Kd0 ke9 Ra9 Rb8", "b"),
    position("Ke0 kd9 Pe8", "b"),
)


def turned(text):
    """The same men with the sides changed, each on the point that lies as far from its own row."""
    side = "b" if text[-1] == "w" else "w"
    return "/".join(reversed(text[:-2].swapcase().split("/"))) + " " + side


class Wins(unittest.TestCase):
    def check(self, text, number, move=""):
        """The whole answer for each most; `number` is 0 where there is no win in up to three."""
        for most in (1, 2, 3):
            expected = winning(number, move) if 0 < number <= most else [0]
            with self.subTest(text=text, most=most):
                self.assertEqual(won(text, most), expected)

    def men_check(self, men, side, number, move=""):
        self.check(position(men, side), number, move)

    def wins_in_one(self, text):
        """The moves that leave the other without one, as moves and play tell it."""
        return [move for move in names(text) if names(bytes(played(text, move)[1:]).decode("ascii")) == []]


class HowMany(Wins):
    def test_in_one(self):
        self.men_check("Kf0 kd9 Ra8 Rb1 pi6", "w", 1, "b1b9")
        self.men_check("Kd0 kf9 ra1 rb8 Pi3", "b", 1, "b8b0")
        self.men_check("Kd0 ke9 Ca4 Rc8 Ag7", "w", 1, "c8f8")
        self.men_check("Kd2 ke7 Ba4 rg6", "b", 1, "g6d6")

    def test_in_two(self):
        # The chariot drives the general off its row, and then takes its last points.
        self.men_check("Kd2 ke8 Rb0", "w", 2, "b0b8")
        self.men_check("Kf2 kd8 Nc7", "w", 2, "f2e2")
        self.men_check("Kf0 kd9 pc1 ra8", "b", 2, "a8f8")
        self.men_check("Kd1 kf7 ri5", "b", 2, "f7e7")

    def test_in_three(self):
        self.men_check("Kd2 kf7 Ni4", "w", 3, "d2e2")
        self.men_check("Kf1 kd9 Pb7", "w", 3, "f1e1")
        self.men_check("Kd2 kf8 ch4 nb6", "b", 3, "b6c4")
        self.men_check("Kd2 kf7 ni5", "b", 3, "f7e7")

    def test_many_men(self):
        self.check("R1N1k1b2/9/3aba3/9/2nr5/2B6/9/4B4/4A4/4KA3 w", 2, "c9d7")
        self.check("1cbak4/9/n2a5/2p1p3p/5cp2/2n2N3/6PCP/3AB4/2C6/3A1K1N1 b", 1, "b9b0")

    def test_sides_changed(self):
        for men, side, number, move in (
            ("Kd2 ke8 Rb0", "w", 2, "b9b1"), ("Kd2 kf7 Ni4", "w", 3, "d7e7"), ("Kf1 kd9 Pb7", "w", 3, "f8e8"),
            ("Kf0 kd9 Ra8 Rb1 pi6", "w", 1, "b8b0"), ("Kf2 kd8 Nc7", "w", 2, "f7e7"),
        ):
            self.check(turned(position(men, side)), number, move)

    def test_none(self):
        self.men_check("Kd0 kf9", "w", 0)
        self.men_check("Kd0 kf9", "b", 0)
        self.men_check("Ke0 kd9 Pa3 pa6", "w", 0)
        self.check("5a3/3k5/3aR4/9/5r3/5n3/9/3A1A3/5K3/2BC2B2 w", 0)
        self.check("5a3/3k5/3aR4/9/5r3/5n3/9/3A1A3/5K3/2BC2B2 b", 0)

    def test_opening(self):
        for most in (1, 2):
            self.assertEqual(won(OPENING + " w", most), [0])
            self.assertEqual(won(OPENING + " b", most), [0])

    def test_answer_number_by_number(self):
        self.assertEqual(won(position("Kf0 kd9 Ra8 Rb1 pi6", "w")), [1, 98, 49, 98, 57])
        self.assertEqual(won(position("Kd0 kf9", "w")), [0])


class LeastAndFirst(Wins):
    def test_the_least_is_told_though_an_earlier_name_wins_too(self):
        # Red may wait by a4a0 and win in two, black by e7e8: whatever is answered, the same move wins then.
        for men, side, longer, move in (
            ("Kd0 ke9 Ca4 Rc8 Ag7", "w", "a4a0", "c8f8"), ("Kd2 ke7 Ba4 rg6", "b", "e7e8", "g6d6"),
        ):
            text = position(men, side)
            self.assertLess(longer, move)
            left = after(text, longer)
            self.assertGreater(len(names(left)), 0)
            for reply in names(left):
                self.assertEqual(won(after(left, reply), 1)[0], 1)
            self.assertEqual(self.wins_in_one(text), [move])
            self.check(text, 1, move)

    def test_first_of_several_in_one(self):
        text = position("Ke1 kf7 Bd6 Pg8", "w")
        self.assertEqual(self.wins_in_one(text), ["d6b4", "d6f4", "e1e0", "e1e2"])
        self.check(text, 1, "d6b4")
        text = position("Kd0 ke9 pe2", "b")
        self.assertEqual(self.wins_in_one(text), ["e2d2", "e2e1"])
        self.check(text, 1, "e2d2")

    def test_first_of_several_in_two(self):
        # b0b8 and b0f0 win in two, the first moves before them in more.
        text = position("Kd2 ke8 Rb0", "w")
        winners = []
        for move in names(text):
            left = after(text, move)
            if all(won(after(left, reply), 1)[0] == 1 for reply in names(left)):
                winners.append(move)
        self.assertEqual(winners, ["b0b8", "b0f0"])
        self.assertEqual(names(text)[0], "b0a0")
        self.check(text, 2, "b0b8")

    def test_first_of_several_in_three(self):
        self.men_check("Kd2 ke7 Ac5 nb4", "b", 3, "b4a2")
        text = position("Kd2 ke7 Ac5 nb4", "b")
        for move in ("b4a2", "b4c2", "b4d3"):
            left = after(text, move)
            for reply in names(left):
                self.assertIn(won(after(left, reply), 2)[0], (1, 2))


class WithoutReachingTheGeneral(Wins):
    def still(self, men, side, move):
        text = position(men, side)
        left = after(text, move)
        self.assertEqual(names(left), [])
        self.assertEqual(mark(left), "-")
        self.check(text, 1, move)

    def test_in_one(self):
        self.still("Kd0 ke9 Ca4 Rc8 Ag7", "w", "c8f8")
        self.still("Ke1 kf7 Bd6 Pg8", "w", "d6b4")
        self.still("Kd0 ke9 pe2", "b", "e2d2")
        self.still("Ke0 kd9 Pe7", "w", "e7d7")

    def test_a_man_that_may_not_go(self):
        # Black's guard e8 stands between the generals and may not leave the column; the general has no point.
        text = position("Ke0 ke9 ae8 Rd2 Rf3 Pa3", "w")
        self.assertIn("a3a4", self.wins_in_one(text))
        self.assertEqual(mark(after(text, "a3a4")), "-")
        self.check(text, 1, "a3a4")


class NoWin(Wins):
    def test_who_goes_has_no_move(self):
        for text in LOST:
            self.assertEqual(names(text), [])
            self.check(text, 0)

    def test_reaching_the_general_is_not_enough(self):
        self.assertEqual(mark(after(position("Kd0 ke8 Pa3 Rb2 pe5", "w"), "b2b8")), "+")
        self.assertEqual(won(position("Kd0 ke8 Pa3 Rb2 pe5", "w"), 1), [0])

    def test_an_answer_leaves_who_goes_without_a_move(self):
        # Whoever has taken the general has no move any more, whatever the elephant or the soldier answers.
        self.men_check("Kf0 kf9 bh8", "w", 0)
        self.men_check("Kd0 kd9 pb1", "w", 0)
        self.men_check("Kf1 kf8 Bh5", "b", 0)

    def test_one_answer_leaves_who_goes_without_a_move(self):
        # e9e1 c3d2: the guard could go to e1, and neither the general nor the horse can mend it.
        self.men_check("Ke1 ke9 Ac3 nf6", "b", 0)


class GeneralsTaken(Wins):
    def test_nobody_is_left(self):
        self.men_check("Ke0 ke9", "w", 1, "e0e9")
        self.men_check("Ke0 ke9", "b", 1, "e9e0")
        self.men_check("Kf2 kd9 Rd7", "w", 1, "d7d9")

    def test_whoever_is_left_has_no_move(self):
        self.men_check("Ke0 ke9 aa5 bb2", "w", 1, "e0e9")
        self.men_check("Ke0 ke9 Aa5 Bb7", "b", 1, "e9e0")

    def test_taking_is_no_win_by_itself(self):
        self.men_check("Ke0 ke9 pa6", "w", 0)
        self.assertEqual(won(position("Ke0 kd9 Ra9 pa6", "w"), 1), [0])
        self.assertEqual(won(position("Kd0 ke9 Re5 pa6 pi6", "w"), 1), [0])

    def test_in_two(self):
        # The soldier goes a8a7, where the horse takes it; f7f6, where the soldier does.
        self.men_check("Kd0 kd7 Nb9 pa8", "w", 2, "d0d7")
        self.men_check("Kd1 kd7 Pf5 pf7", "w", 2, "d1d7")
        self.men_check("Kd2 kd8 Pf2 pf4", "b", 2, "d8d2")

    def test_taken_by_another_man_in_two(self):
        self.men_check("Kf2 kf7 Pc3 Rd7 bg6", "w", 2, "d7f7")

    def test_in_three(self):
        self.men_check("Kd0 kd8 Ne8 pb9", "w", 3, "d0d8")
        self.men_check("Ke1 ke7 Ba3 Nd6 bf8", "w", 3, "e1e7")

    def test_sides_changed(self):
        self.check(turned(position("Kd0 kd7 Nb9 pa8", "w")), 2, "d9d2")
        self.check(turned(position("Kd0 kd8 Ne8 pb9", "w")), 3, "d9d1")


class Refusals(unittest.TestCase):
    def test_most_in_its_range(self):
        for most in (1, 2, 3):
            self.assertEqual(won(position("Ke0 ke9"), most), winning(1, "e0e9"))

    def test_most_out_of_its_range(self):
        for most in OUTSIDE:
            for text in (OPENING + " w", OPENING + " b", position("Ke0 ke9")) + LOST:
                with self.subTest(most=most, text=text):
                    self.assertEqual(won(text, most), [-2])

    def test_wrong_texts(self):
        for text in NO_POSITIONS:
            for most in (1, 2, 3):
                with self.subTest(most=most, text=text):
                    self.assertEqual(won(text, most), [-3])

    def test_range_before_text(self):
        for text in NO_POSITIONS:
            for most in OUTSIDE:
                with self.subTest(most=most, text=text):
                    self.assertEqual(won(text, most), [-2])

    def test_every_text_cut_short(self):
        text = OPENING + " w"
        for size in range(len(text)):
            self.assertEqual(won(text[:size], 1), [-3])

    def test_text_left_without_a_general(self):
        self.assertEqual(won(after(position("Ke0 ke9"), "e0e9"), 1), [-3])


class NothingElse(unittest.TestCase):
    CALLS = ((OPENING + " w", 1), (OPENING, 2), ("", 1), (position("Ke0 ke9", "b"), 3), ("x" * 256, 3), (LOST[0], 3),
             (OPENING + " b", 4), ("", 0), (position("Kd2 kf7 Ni4"), 3), (position("Kd2 ke8 Rb0"), 2))

    def test_k_is_not_looked_at(self):
        for k in (1, -1, 65, 256, 257, -2147483648, 2147483647):
            for text, most in self.CALLS:
                with self.subTest(k=k, text=text, most=most):
                    self.assertEqual(won(text, most, k), won(text, most))

    def test_list_handed_in_stays(self):
        for text, most in self.CALLS:
            with self.subTest(text=text, most=most):
                given = signs(text)
                win(0, most, given)
                self.assertEqual(given, signs(text))

    def test_list_handed_in_is_never_written_to(self):
        for text, most in self.CALLS:
            self.assertEqual(win(0, most, Fixed(signs(text))), won(text, most))

    def test_nothing_is_kept(self):
        text = position("Kd2 ke8 Rb0")
        first = won(text, 2)
        first.append(7)
        first[0] = -9
        won(OPENING + " b", 1)
        won("", 1)
        answer(OPENING + " w")
        self.assertEqual(won(text, 2), winning(2, "b0b8"))
        self.assertEqual(won(text, 1), [0])
        self.assertEqual(won(text, 3), winning(2, "b0b8"))

    def test_kinds(self):
        for text, most in self.CALLS:
            given = won(text, most)
            self.assertIs(type(given), list)
            self.assertEqual({type(number) for number in given}, {int})
            self.assertEqual(len(given), 5 if given[0] > 0 else 1)

    def test_names_of_what_is_handed_in(self):
        text = signs(position("Ke0 ke9"))
        self.assertEqual(win(k=3, most=1, text=text), winning(1, "e0e9"))
        self.assertEqual(win(3, 1, text), winning(1, "e0e9"))

    def test_nothing_is_printed(self):
        out = io.StringIO()
        with contextlib.redirect_stdout(out), contextlib.redirect_stderr(out):
            for text, most in self.CALLS:
                won(text, most)
        self.assertEqual(out.getvalue(), "")


if __name__ == "__main__":
    unittest.main()
