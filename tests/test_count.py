"""count: how many ways, its edges and refusals, and what is handed in and given back."""

import contextlib
import io
import unittest

from tenrows.positions import count
from tests.asking import NO_POSITIONS, OPENING, Fixed, after, answer, counted, ends, names, played, position, signs

OUTSIDE = (-1, 6, -2147483648, 2147483647)
LOST = (
    position("Ke0 kd9 ra0 rb1", "w"),
    position("Ke1 kd9 re5 Pd1 Pf1", "w"),
    position("Kd0 ke9 pe1", "w"),
    position("Kd0 ke9 Ra9 Rb8", "b"),
    position("Ke0 kd9 Pe8", "b"),
)


class Counts(unittest.TestCase):
    def check(self, text, expected):
        """`expected` has how many ways there are for depth 0, 1 and so on."""
        for depth, ways in enumerate(expected):
            with self.subTest(text=text, depth=depth):
                self.assertEqual(counted(text, depth), [ways])

    def men_check(self, men, side, expected):
        self.check(position(men, side), expected)


class WholePositions(Counts):
    def test_opening(self):
        self.check(OPENING + " w", (1, 44, 1920, 79666))
        self.check(OPENING + " b", (1, 44, 1920))

    def test_many_men(self):
        self.check("r1ba1a3/4kn3/2n1b4/pNp1p1p1p/4c4/6P2/P1P2R2P/1CcC5/9/2BAKAB2 w", (1, 38, 1128, 43929))
        self.check("1cbak4/9/n2a5/2p1p3p/5cp2/2n2N3/6PCP/3AB4/2C6/3A1K1N1 w", (1, 7, 281, 8620))
        self.check("1C2ka3/9/C1Nab1n2/p3p3p/6p2/9/P3P3P/3AB4/3p2c2/c1BAK4 w", (1, 30, 830, 22787))
        self.check("CnN1k1b2/c3a4/4ba3/9/2nr5/9/9/4C4/4A4/4KA3 w", (1, 19, 583, 11714))

    def test_few_men(self):
        self.check("5a3/3k5/3aR4/9/5r3/5n3/9/3A1A3/5K3/2BC2B2 w", (1, 25, 424, 9850))
        self.check("R1N1k1b2/9/3aba3/9/2nr5/2B6/9/4B4/4A4/4KA3 w", (1, 21, 364, 7626))
        self.check("C1nNk4/9/9/9/9/9/n1pp5/B3C4/9/3A1K3 w", (1, 28, 222, 6241, 64971))
        self.check("2b1ka3/9/b3N4/4n4/9/9/9/4C4/2p6/2BK5 w", (1, 21, 195, 3883, 48060, 933096))

    def test_the_board_turned_round(self):
        # The same men with the sides changed, and black goes.
        for text, depths in (
            ("C1nNk4/9/9/9/9/9/n1pp5/B3C4/9/3A1K3 w", (1, 28, 222, 6241)),
            ("2b1ka3/9/b3N4/4n4/9/9/9/4C4/2p6/2BK5 w", (1, 21, 195, 3883)),
            ("5a3/3k5/3aR4/9/5r3/5n3/9/3A1A3/5K3/2BC2B2 w", (1, 25, 424)),
        ):
            self.check("/".join(reversed(text[:-2].swapcase().split("/"))) + " b", depths)

    def test_generals_alone(self):
        self.men_check("Kd0 kf9", "w", (1, 2, 3, 7, 17, 33))
        self.men_check("Kd0 kf9", "b", (1, 2, 3, 7, 17, 33))


class NoMove(Counts):
    def test_who_goes_has_none(self):
        for text in LOST:
            self.assertEqual(names(text), [])
            self.check(text, (1, 0, 0, 0, 0, 0))

    def test_the_other_has_none_after_some(self):
        # Behind e2d2 and e2e1 red has no move, behind e2f2 one, behind e9e8 and e9f9 two.
        self.men_check("Kd0 ke9 pe2", "b", (1, 5, 5))
        self.men_check("Ke0 kd9 Pe7", "w", (1, 5, 5))

    def test_the_other_has_none_after_any(self):
        self.men_check("Kd0 Pe0 kd9", "w", (1, 1, 0, 0, 0, 0))


class GeneralsTaken(Counts):
    def test_generals_alone(self):
        # e0e9 leaves black without a man; behind e0d0 and e0f0 there are two moves each, and three behind these.
        self.men_check("Ke0 ke9", "w", (1, 3, 4, 6))
        self.men_check("Ke0 ke9", "b", (1, 3, 4, 6))

    def test_soldiers_go_on(self):
        self.men_check("Ke0 ke9 pa6 Pi3", "w", (1, 3, 7, 15))

    def test_only_the_taking_may_come_first(self):
        # The soldiers go on: d0d9 a5a4 e0e1, then a4a3 or a4b4, then e1e2.
        self.men_check("Kd0 Pe0 kd9 pa5", "w", (1, 1, 1, 1, 2, 2))
        self.men_check("Kd0 kd9 pe9 Pa4", "b", (1, 1, 1, 1, 2, 2))

    def test_the_general_that_took_may_be_gone_to(self):
        # Of the chariot's 17 moves a5a9 and a5d5 leave red without a move, the others with two each.
        self.men_check("Kd0 Pe0 kd9 ra5 Pi3", "w", (1, 1, 17, 30))
        self.men_check("Kd0 kd9 pe9 Ra4 pi6", "b", (1, 1, 17, 30))

    def test_the_general_that_took_stays(self):
        # d1d8 a6a5, and then d0d1 or e1e2: beside d8 no point lies in red's own palace.
        self.men_check("Kd1 kd8 Pd0 Pe1 pa6", "w", (1, 1, 1, 2))
        self.men_check("Kd1 kd8 pd9 pe8 Pa3", "b", (1, 1, 1, 2))

    def test_a_man_need_not_guard_a_general_that_is_gone(self):
        # Before, the chariot d8 may not leave its column; then it has nine moves along it, and eight along its row.
        self.assertEqual(ends(position("Kf0 kd9 rd8 Rd0 Rc8", "b"), "d8"), "d0 d1 d2 d3 d4 d5 d6 d7")
        self.assertEqual(ways_behind(position("Kf0 kd9 rd8 Rd0 Rc9", "w"), "c9d9"), 17)

    def test_taken_by_another_man(self):
        self.men_check("Ke0 kd9 Ra9", "w", (1, 14))
        self.assertEqual(ways_behind(position("Ke0 kd9 Ra9", "w"), "a9d9"), 0)
        self.assertEqual(ways_behind(position("Ke0 kd9 Ra9 pa6 ph4", "w"), "a9d9"), 4)
        self.assertEqual(ways_behind(position("Ke0 kd9 pe1 Ra0", "b"), "e1e0"), 13)


def ways_behind(text, move):
    """How many moves may follow this one: what count tells of two, less what may follow the other moves."""
    others = [name for name in names(text) if name != move]
    return counted(text, 2)[0] - sum(counted(after(text, name), 1)[0] for name in others)


class AgainstTheOtherCalls(unittest.TestCase):
    TEXTS = (
        OPENING + " w",
        OPENING + " b",
        "5a3/3k5/3aR4/9/5r3/5n3/9/3A1A3/5K3/2BC2B2 b",
        "C1nNk4/9/9/9/9/9/n1pp5/B3C4/9/3A1K3 b",
        position("Ke0 kd9 Ra3 pe2"),
        position("Ke0 kd9 Ra3 pe2", "b"),
        position("Kd0 ke9 pe2", "b"),
    ) + LOST

    def test_depth_0(self):
        for text in self.TEXTS + (position("Ke0 ke9"), position("Ke0 ke9", "b"), position("Ke0 kd9 Ra9")):
            with self.subTest(text=text):
                self.assertEqual(counted(text, 0), [1])

    def test_depth_1_is_how_many_moves_are_told(self):
        for text in self.TEXTS + (position("Ke0 ke9"), position("Ke0 ke9", "b"), position("Ke0 kd9 Ra9")):
            with self.subTest(text=text):
                self.assertEqual(counted(text, 1), [len(names(text))])

    def test_one_deeper_is_the_sum_over_the_moves(self):
        for text in self.TEXTS:
            deepest = 1 if OPENING in text else 2
            left = [bytes(played(text, move)[1:]).decode("ascii") for move in names(text)]
            for depth in range(deepest + 1):
                with self.subTest(text=text, depth=depth):
                    self.assertEqual(counted(text, depth + 1), [sum(counted(each, depth)[0] for each in left)])

    def test_one_deeper_up_to_the_deepest(self):
        for text in (position("Ke0 kd9 Pe5 pa1"), position("Kd0 ke9 pe2", "b"), position("Ke0 kd9 Ae1 be7", "b")):
            for depth in range(5):
                with self.subTest(text=text, depth=depth):
                    following = sum(counted(after(text, move), depth)[0] for move in names(text))
                    self.assertEqual(counted(text, depth + 1), [following])


class Refusals(unittest.TestCase):
    def test_depth_in_its_range(self):
        self.assertEqual(counted(position("Kd0 kf9"), 0), [1])
        self.assertEqual(counted(position("Kd0 kf9"), 5), [33])

    def test_depth_out_of_its_range(self):
        for depth in OUTSIDE:
            for text in (OPENING + " w", OPENING + " b", position("Kd0 kf9")) + LOST:
                with self.subTest(depth=depth, text=text):
                    self.assertEqual(counted(text, depth), [-2])

    def test_wrong_texts(self):
        for text in NO_POSITIONS:
            for depth in range(6):
                with self.subTest(depth=depth, text=text):
                    self.assertEqual(counted(text, depth), [-3])

    def test_range_before_text(self):
        for text in NO_POSITIONS:
            for depth in OUTSIDE:
                with self.subTest(depth=depth, text=text):
                    self.assertEqual(counted(text, depth), [-2])

    def test_every_text_cut_short(self):
        text = OPENING + " w"
        for size in range(len(text)):
            self.assertEqual(counted(text[:size], 0), [-3])

    def test_text_left_without_a_general(self):
        self.assertEqual(counted(after(position("Ke0 ke9"), "e0e9"), 1), [-3])


class NothingElse(unittest.TestCase):
    CALLS = ((OPENING + " w", 2), (OPENING, 2), ("", 0), (position("Ke0 ke9", "b"), 3), ("x" * 256, 5), (LOST[0], 5),
             (OPENING + " b", 6), ("", -1))

    def test_k_is_not_looked_at(self):
        for k in (1, -1, 65, 256, 257, -2147483648, 2147483647):
            for text, depth in self.CALLS:
                with self.subTest(k=k, text=text, depth=depth):
                    self.assertEqual(counted(text, depth, k), counted(text, depth))

    def test_list_handed_in_stays(self):
        for text, depth in self.CALLS:
            with self.subTest(text=text, depth=depth):
                given = signs(text)
                count(0, depth, given)
                self.assertEqual(given, signs(text))

    def test_list_handed_in_is_never_written_to(self):
        for text, depth in self.CALLS:
            self.assertEqual(count(0, depth, Fixed(signs(text))), counted(text, depth))

    def test_nothing_is_kept(self):
        first = counted(OPENING + " w", 2)
        first.append(7)
        first[0] = -9
        counted(OPENING + " b", 1)
        counted("", 1)
        answer(OPENING + " w")
        self.assertEqual(counted(OPENING + " w", 2), [1920])
        self.assertEqual(counted(OPENING + " w", 1), [44])

    def test_kinds(self):
        for text, depth in self.CALLS:
            given = counted(text, depth)
            self.assertIs(type(given), list)
            self.assertEqual([type(number) for number in given], [int])

    def test_names_of_what_is_handed_in(self):
        self.assertEqual(count(k=3, depth=1, text=signs(OPENING + " w")), [44])
        self.assertEqual(count(3, 1, signs(OPENING + " w")), [44])

    def test_nothing_is_printed(self):
        out = io.StringIO()
        with contextlib.redirect_stdout(out), contextlib.redirect_stderr(out):
            for text, depth in self.CALLS:
                counted(text, depth)
        self.assertEqual(out.getvalue(), "")


if __name__ == "__main__":
    unittest.main()
