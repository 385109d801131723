"""play where there is such a move: the whole text that is left, and what is handed in and given back."""

import contextlib
import io
import unittest

from tenrows.board import FREE
from tenrows.positions import play
from tenrows.reading import read_board, read_position
from tests.asking import OPENING, Fixed, after, answer, names, played, position, signs, whole


class Plays(unittest.TestCase):
    def leaves(self, text, move, left):
        with self.subTest(text=text, move=move):
            self.assertEqual(played(text, move), whole(left))

    def men_leave(self, men, side, move, left):
        """The same, by lists of men: who goes then is the other side."""
        self.leaves(position(men, side), move, position(left, "b" if side == "w" else "w"))


class WholePositions(Plays):
    def test_opening_red_goes(self):
        before = OPENING + " w"
        self.leaves(before, "h2e2", "rnbakabnr/9/1c5c1/p1p1p1p1p/9/9/P1P1P1P1P/1C2C4/9/RNBAKABNR b")
        self.leaves(before, "h2h9", "rnbakabCr/9/1c5c1/p1p1p1p1p/9/9/P1P1P1P1P/1C7/9/RNBAKABNR b")
        self.leaves(before, "a0a1", "rnbakabnr/9/1c5c1/p1p1p1p1p/9/9/P1P1P1P1P/1C5C1/R8/1NBAKABNR b")
        self.leaves(before, "e0e1", "rnbakabnr/9/1c5c1/p1p1p1p1p/9/9/P1P1P1P1P/1C5C1/4K4/RNBA1ABNR b")
        self.leaves(before, "i3i4", "rnbakabnr/9/1c5c1/p1p1p1p1p/9/8P/P1P1P1P2/1C5C1/9/RNBAKABNR b")

    def test_opening_black_goes(self):
        before = OPENING + " b"
        self.leaves(before, "h9g7", "rnbakab1r/9/1c4nc1/p1p1p1p1p/9/9/P1P1P1P1P/1C5C1/9/RNBAKABNR w")
        self.leaves(before, "b7b0", "rnbakabnr/9/7c1/p1p1p1p1p/9/9/P1P1P1P1P/1C5C1/9/RcBAKABNR w")
        self.leaves(before, "a6a5", "rnbakabnr/9/1c5c1/2p1p1p1p/p8/9/P1P1P1P1P/1C5C1/9/RNBAKABNR w")

    def test_few_men(self):
        self.leaves("3k5/9/9/9/9/9/9/9/9/4K4 w", "e0f0", "3k5/9/9/9/9/9/9/9/9/5K3 b")
        self.leaves("3k5/9/9/9/9/9/9/9/9/4K4 b", "d9d8", "9/3k5/9/9/9/9/9/9/9/4K4 w")
        self.leaves("3k5/9/9/9/4P4/9/9/9/p8/4K4 w", "e5e6", "3k5/9/9/4P4/9/9/9/9/p8/4K4 b")
        self.leaves("3k5/9/9/9/4P4/9/9/9/p8/4K4 b", "a1b1", "3k5/9/9/9/4P4/9/9/9/1p7/4K4 w")

    def test_answer_number_by_number(self):
        given = played("3k5/9/9/9/9/9/9/9/9/4K4 w", "e0e1")
        rows = [51, 107, 53, 47] + [57, 47] * 7 + [52, 75, 52, 47, 57]
        self.assertEqual(given, [25] + rows + [32, 98])

    def test_moves_one_behind_the_other(self):
        text = OPENING + " w"
        for move in "h2e2 h9g7 h0g2 i9h9 i0h0 g6g5".split():
            given = played(text, move)
            self.assertEqual(given[0], len(given) - 1)
            text = bytes(given[1:]).decode("ascii")
        self.assertEqual(text, "rnbakabr1/9/1c4nc1/p1p1p3p/6p2/9/P1P1P1P1P/1C2C1N2/9/RNBAKABR1 w")

    def test_out_of_reach_again(self):
        # Who goes could be taken, and steps away, or takes the man who could do it, or stands between.
        men = "Ke0 kd9 re5 Na4 Rf4 "
        for move, left in (("e0f0", "Kf0 kd9 re5 Na4 Rf4"), ("f4e4", "Ke0 kd9 re5 Na4 Re4")):
            self.men_leave(men, "w", move, left)
        self.men_leave("Ke0 kd9 re5 Ra5", "w", "a5e5", "Ke0 kd9 Re5")


class KindsOfMen(Plays):
    GOES = (
        ("Ke0 kd9", "w", "e0e1", "Ke1 kd9"),
        ("Ke0 kd9", "b", "d9d8", "Ke0 kd8"),
        ("Kd0 ke9 Ad2", "w", "d2e1", "Kd0 ke9 Ae1"),
        ("Kd0 ke9 ae8", "b", "e8f7", "Kd0 ke9 af7"),
        ("Kd0 ke9 Bc0", "w", "c0a2", "Kd0 ke9 Ba2"),
        ("Kd0 ke9 bg5", "b", "g5i7", "Kd0 ke9 bi7"),
        ("Kd0 ke9 Nb0", "w", "b0c2", "Kd0 ke9 Nc2"),
        ("Kd0 ke9 ni9", "b", "i9g8", "Kd0 ke9 ng8"),
        ("Kd0 ke9 Ra0", "w", "a0a9", "Kd0 ke9 Ra9"),
        ("Kd0 ke9 ri9", "b", "i9f9", "Kd0 ke9 rf9"),
        ("Kd0 ke9 Cb2", "w", "b2i2", "Kd0 ke9 Ci2"),
        ("Kd0 ke9 ch7", "b", "h7h0", "Kd0 ke9 ch0"),
        ("Kd0 ke9 Pa3", "w", "a3a4", "Kd0 ke9 Pa4"),
        ("Kd0 ke9 Pa5", "w", "a5b5", "Kd0 ke9 Pb5"),
        ("Kd0 ke9 pi6", "b", "i6i5", "Kd0 ke9 pi5"),
        ("Kd0 ke9 pi4", "b", "i4h4", "Kd0 ke9 ph4"),
    )
    TAKES = (
        ("Ke0 kd9 pe1", "w", "e0e1", "Ke1 kd9"),
        ("Ke0 kd9 Cd8", "b", "d9d8", "Ke0 kd8"),
        ("Kd0 ke9 Ae1 nf2", "w", "e1f2", "Kd0 ke9 Af2"),
        ("Kd0 ke9 af9 Ne8", "b", "f9e8", "Kd0 ke9 ae8"),
        ("Kd0 ke9 Bc0 ra2", "w", "c0a2", "Kd0 ke9 Ba2"),
        ("Kd0 ke9 bg5 Ci7", "b", "g5i7", "Kd0 ke9 bi7"),
        ("Kd0 ke9 Nb0 bc2", "w", "b0c2", "Kd0 ke9 Nc2"),
        ("Kd0 ke9 ni9 Pg8", "b", "i9g8", "Kd0 ke9 ng8"),
        ("Kd0 ke9 Ra0 aa7", "w", "a0a7", "Kd0 ke9 Ra7"),
        ("Kd0 ke9 ri9 Bi0", "b", "i9i0", "Kd0 ke9 ri0"),
        ("Kd0 ke9 Cb2 Pd2 ci2", "w", "b2i2", "Kd0 ke9 Pd2 Ci2"),
        ("Kd0 ke9 ch7 Ph5 Ah4", "b", "h7h4", "Kd0 ke9 Ph5 ch4"),
        ("Kd0 ke9 Pa3 pa4", "w", "a3a4", "Kd0 ke9 Pa4"),
        ("Kd0 ke9 Pa5 rb5", "w", "a5b5", "Kd0 ke9 Pb5"),
        ("Kd0 ke9 pi6 Ni5", "b", "i6i5", "Kd0 ke9 pi5"),
        ("Kd0 ke9 pi4 Rh4", "b", "i4h4", "Kd0 ke9 ph4"),
    )

    def test_to_a_free_point(self):
        for men, side, move, left in self.GOES:
            self.men_leave(men, side, move, left)

    def test_taking(self):
        for men, side, move, left in self.TAKES:
            self.assertEqual(len(men.split()) - len(left.split()), 1)
            self.men_leave(men, side, move, left)


class FreePoints(Plays):
    def row_leaves(self, row, move, left):
        """A chariot leaves row 4 upward, or goes within it; what else the board has stays."""
        self.leaves(f"3k5/9/9/9/9/{row}/9/9/9/4K4 w", move, f"3k5/9/9/9/9/{left}/9/9/9/4K4 b")

    def row_is_left(self, row, column, left):
        """The man at this column goes a point forward out of row 4."""
        above = "".join(sign for sign in (str(column), "P", str(8 - column)) if sign != "0")
        move = "abcdefghi"[column] + "4" + "abcdefghi"[column] + "5"
        self.leaves(f"3k5/9/9/9/9/{row}/9/9/9/4K4 w", move, f"3k5/9/9/9/{above}/{left}/9/9/9/4K4 b")

    def row_is_reached(self, row, column, left):
        """A man comes to this column of row 4 from behind."""
        behind = "".join(sign for sign in (str(column), "P", str(8 - column)) if sign != "0")
        move = "abcdefghi"[column] + "3" + "abcdefghi"[column] + "4"
        self.leaves(f"3k5/9/9/9/9/{row}/{behind}/9/9/4K4 w", move, f"3k5/9/9/9/9/{left}/9/9/9/4K4 b")

    def test_come_together_by_leaving(self):
        for row, column, left in (
            ("P8", 0, "9"), ("8P", 8, "9"), ("4P4", 4, "9"), ("1P7", 1, "9"), ("7P1", 7, "9"),
            ("P7p", 0, "8p"), ("p7P", 8, "p8"), ("p2P2p2", 3, "p5p2"), ("2p2P2p", 5, "2p5p"),
            ("PppppppPP", 0, "1ppppppPP"), ("PpppppppP", 8, "Pppppppp1"), ("pppPppppp", 3, "ppp1ppppp"),
            ("1Ppppp1p1", 1, "2pppp1p1"), ("1p1ppppP1", 7, "1p1pppp2"), ("p1Pppp1p1", 2, "p2ppp1p1"),
        ):
            self.row_is_left(row, column, left)

    def test_parted_by_coming(self):
        for row, column, left in (
            ("9", 0, "P8"), ("9", 8, "8P"), ("9", 4, "4P4"), ("9", 1, "1P7"), ("9", 7, "7P1"),
            ("8p", 0, "P7p"), ("p8", 8, "p7P"), ("p5p2", 3, "p2P2p2"), ("2p5p", 5, "2p2P2p"),
            ("1pppppppp", 0, "Ppppppppp"), ("pppppppp1", 8, "ppppppppP"), ("ppp1ppppp", 3, "pppPppppp"),
            ("2pppp1p1", 1, "1Ppppp1p1"), ("1p1pppp2", 7, "1p1ppppP1"), ("p2ppp1p1", 2, "p1Pppp1p1"),
        ):
            self.row_is_reached(row, column, left)

    def test_taking_parts_nothing(self):
        for row, column, left in (("p8", 0, "P8"), ("8p", 8, "8P"), ("3p5", 3, "3P5"), ("ppppppppp", 4, "ppppPpppp")):
            self.row_is_reached(row, column, left)

    def test_within_one_row(self):
        for row, move, left in (
            ("R8", "a4i4", "8R"), ("8R", "i4a4", "R8"), ("R8", "a4b4", "1R7"), ("4R4", "e4d4", "3R5"),
            ("p3R3p", "e4f4", "p4R2p"), ("p3R3p", "e4a4", "R7p"), ("p3R3p", "e4i4", "p7R"),
            ("pR6p", "b4h4", "p6Rp"), ("ppR1ppppp", "c4d4", "pp1Rppppp"), ("pppppppRp", "h4i4", "ppppppp1R"),
            ("pRppppppp", "b4a4", "R1ppppppp"), ("2Rp5", "c4d4", "3R5"), ("2pR5", "d4c4", "2R6"),
        ):
            self.row_leaves(row, move, left)

    def test_every_way_along_a_free_row(self):
        for start in range(9):
            for end in range(9):
                if start != end:
                    before = position(f"kd9 Ke0 R{'abcdefghi'[start]}4", "w")
                    left = position(f"kd9 Ke0 R{'abcdefghi'[end]}4", "b")
                    self.leaves(before, f"{'abcdefghi'[start]}4{'abcdefghi'[end]}4", left)

    def test_first_and_last_row(self):
        self.leaves("R2k5/9/9/9/9/9/9/9/9/4K4 w", "a9c9", "2Rk5/9/9/9/9/9/9/9/9/4K4 b")
        self.leaves("3k5/9/9/9/9/9/9/9/9/4K3R w", "i0f0", "3k5/9/9/9/9/9/9/9/9/4KR3 b")
        self.leaves("3k5/9/9/9/9/9/9/9/9/4K3R w", "i0i9", "3k4R/9/9/9/9/9/9/9/9/4K4 b")
        self.leaves("R2k5/9/9/9/9/9/9/9/9/4K4 w", "a9a0", "3k5/9/9/9/9/9/9/9/9/R3K4 b")
        self.leaves("3k5/9/9/9/9/9/9/9/9/4K4 b", "d9d8", "9/3k5/9/9/9/9/9/9/9/4K4 w")
        self.leaves("3k5/9/9/9/9/9/9/9/9/4K4 w", "e0e1", "3k5/9/9/9/9/9/9/9/4K4/9 b")

    def test_no_free_point_is_left_but_one(self):
        before = "/".join(["pppkppppp"] + ["p" * 9] * 3 + ["P1PPPPPPP"] + ["P" * 9] * 4 + ["PPPPKPPPP"])
        left = "/".join(["pppkppppp"] + ["p" * 9] * 3 + ["1PPPPPPPP"] + ["P" * 9] * 4 + ["PPPPKPPPP"])
        self.leaves(before + " w", "a5b5", left + " b")
        self.assertEqual(len(left + " b"), 101)


class GeneralsTaken(Plays):
    def test_by_the_other_general(self):
        self.leaves("4k4/9/9/9/9/9/9/9/9/4K4 w", "e0e9", "4K4/9/9/9/9/9/9/9/9/9 b")
        self.leaves("4k4/9/9/9/9/9/9/9/9/4K4 b", "e9e0", "9/9/9/9/9/9/9/9/9/4k4 w")
        self.leaves("9/9/3k5/9/9/9/9/3K5/9/9 w", "d2d7", "9/9/3K5/9/9/9/9/9/9/9 b")

    def test_by_the_other_general_with_men_left(self):
        self.men_leave("Kf1 kf8 Ra0 Pi3 nb9 pi6", "w", "f1f8", "Kf8 Ra0 Pi3 nb9 pi6")
        self.men_leave("Kf1 kf8 Ra2 Pi3 nb9 pi6", "b", "f8f1", "kf1 Ra2 Pi3 nb9 pi6")

    def test_by_another_man(self):
        self.men_leave("Ke0 kd9 Ra9", "w", "a9d9", "Ke0 Rd9")
        self.men_leave("Ke0 kd9 pe1", "b", "e1e0", "kd9 pe0")
        self.men_leave("Ke0 kd9 Nc7", "w", "c7d9", "Ke0 Nd9")

    def test_not_where_a_man_could_go(self):
        # A guard, an elephant or another man that could go to where the general has gone forbids the move.
        for man in ("ad8", "bc7", "ra9", "nf7"):
            self.assertEqual(played(position(f"Ke0 ke9 {man}", "w"), "e0e9"), [-4], man)

    def test_the_text_left_is_no_position(self):
        left = bytes(played(position("Ke0 ke9", "w"), "e0e9")[1:]).decode("ascii")
        self.assertEqual(answer(left), [-3])
        self.assertEqual(played(left, "e9e8"), [-3])


class EveryMove(unittest.TestCase):
    TEXTS = (
        OPENING + " w",
        OPENING + " b",
        "r1ba1a3/4kn3/2n1b4/pNp1p1p1p/4c4/6P2/P1P2R2P/1CcC5/9/2BAKAB2 w",
        "1cbak4/9/n2a5/2p1p3p/5cp2/2n2N3/6PCP/3AB4/2C6/3A1K1N1 b",
        "CRN1k1b2/3ca4/4ba3/9/2nr5/9/9/4B4/4A4/4KA3 b",
        "1C2ka3/9/C1Nab1n2/p3p3p/6p2/9/P3P3P/3AB4/3p2c2/c1BAK4 w",
        "4k4/9/9/9/9/9/9/9/9/4K4 w",
        "3k5/4R4/9/9/9/9/9/9/r8/3K5 b",
    )

    def test_played_and_read_again(self):
        for text in self.TEXTS:
            for move in names(text):
                with self.subTest(text=text, move=move):
                    given = played(text, move)
                    self.assertEqual(given, whole(after(text, move)))
                    self.read_again(text, move, given[1:])

    def read_again(self, text, move, left):
        board = list(read_position(signs(text))[0])
        start = (ord(move[0]) - 97) * 10 + int(move[1])
        end = (ord(move[2]) - 97) * 10 + int(move[3])
        man, taken = board[start], board[end]
        board[end], board[start] = man, FREE
        side = "b" if text[-1] == "w" else "w"
        self.assertEqual(read_board(left[:-2]), "".join(board))
        self.assertEqual(bytes(left[-2:]).decode("ascii"), " " + side)
        self.assertEqual(read_position(left), None if taken in ("K", "k") else ("".join(board), side))


class Most(unittest.TestCase):
    def test_in_its_range(self):
        text, left = OPENING + " w", "rnbakabnr/9/1c5c1/p1p1p1p1p/9/9/P1P1P1P1P/1C2C4/9/RNBAKABNR b"
        for most in (len(left), len(left) + 1, 256, 65535, 65536):
            with self.subTest(most=most):
                self.assertEqual(played(text, "h2e2", most), whole(left))
        for most in (0, 1, len(left) - 2, len(left) - 1):
            with self.subTest(most=most):
                self.assertEqual(played(text, "h2e2", most), [-1])

    def test_what_is_left_is_measured(self):
        # 61 bytes become 59 or 62: how long the text that was handed in is has no part in it.
        text = OPENING + " w"
        self.assertEqual(played(text, "h2h9", 59)[0], 59)
        self.assertEqual(played(text, "h2h9", 58), [-1])
        self.assertEqual(played(text, "b0c2", 61), [-1])
        self.assertEqual(played(text, "b0c2", 62)[0], 62)

    def test_out_of_its_range(self):
        for most in (-1, 65537, -2147483648, 2147483647):
            with self.subTest(most=most):
                self.assertEqual(played(OPENING + " w", "h2e2", most), [-2])


class NothingElse(unittest.TestCase):
    CALLS = ((OPENING + " w", "h2e2"), (OPENING + " w", "h2e3"), (OPENING, "h2e2"), ("", ""),
             (position("Ke0 ke9", "b"), "e9e0"), ("x" * 256, "y" * 256))

    def test_lists_handed_in_stay(self):
        for text, move in self.CALLS:
            for most in (65536, 0, -1):
                with self.subTest(text=text, move=move, most=most):
                    given, called = signs(text), signs(move)
                    play(most, given, called)
                    self.assertEqual((given, called), (signs(text), signs(move)))

    def test_lists_handed_in_are_never_written_to(self):
        for text, move in self.CALLS:
            self.assertEqual(play(65536, Fixed(signs(text)), Fixed(signs(move))), played(text, move))

    def test_nothing_is_kept(self):
        first = played(OPENING + " w", "h2e2")
        kept = list(first)
        first.append(7)
        first[0] = -9
        played(OPENING + " b", "h7e7")
        played("", "")
        answer(OPENING + " w")
        self.assertEqual(played(OPENING + " w", "h2e2"), kept)

    def test_kinds(self):
        for text, move in self.CALLS:
            for most in (65536, 0, -1):
                given = played(text, move, most)
                self.assertIs(type(given), list)
                self.assertEqual({type(number) for number in given}, {int})
                self.assertEqual(len(given), 1 + max(given[0], 0))

    def test_names_of_what_is_handed_in(self):
        text, move = signs(OPENING + " w"), signs("h2e2")
        self.assertEqual(play(most=65536, text=text, move=move), play(65536, text, move))

    def test_nothing_is_printed(self):
        out = io.StringIO()
        with contextlib.redirect_stdout(out), contextlib.redirect_stderr(out):
            for text, move in self.CALLS:
                played(text, move)
        self.assertEqual(out.getvalue(), "")


if __name__ == "__main__":
    unittest.main()
