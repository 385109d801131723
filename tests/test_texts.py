"""Texts that are positions, and texts that are none."""

import unittest

from tenrows.positions import moves
from tests.asking import OPENING, answer, names, position, signs

SMALL = "3k5/9/9/9/9/9/9/9/9/4K4 w"


class Texts(unittest.TestCase):
    def refused(self, text):
        with self.subTest(text=text):
            self.assertEqual(answer(text), [-3])

    def taken(self, text):
        with self.subTest(text=text):
            self.assertGreater(answer(text)[0], 0)


class Positions(Texts):
    def test_taken(self):
        self.taken(SMALL)
        self.taken(SMALL[:-1] + "b")
        self.taken(OPENING + " w")
        self.taken(OPENING + " b")

    def test_every_man_anywhere_else(self):
        # Only of generals does the document say where they stand and how many there are.
        self.taken("PPPkPPPPP/aaaaaaaaa/bbbbbbbbb/nnnnnnnnn/rrrrrrrrr/ccccccccc/ppppppppp/AAAAAAAAA/BBBBBBBBB/4K4 w")
        self.taken("AAAkAAAAA/BBBBBBBBB/9/9/9/9/9/bbbbbbbbb/aaaaaaaaa/pppKppppp b")

    def test_digits(self):
        self.taken("3k1P1P1/9/1P1P1P1P1/2P2P2P/8P/P8/4P4/9/9/4K4 w")
        for count in range(1, 9):
            self.taken("3k5/" + str(count) + "P" * (9 - count) + "/9/9/9/9/9/9/9/4K4 w")

    def test_where_each_row_stands(self):
        for row in range(10):
            rows = ["3k5", "9", "9", "9", "9", "9", "9", "9", "9", "4K4"]
            rows[9 - row] = {9: "3k3P1", 0: "4K2P1"}.get(row, "7P1")
            text = "/".join(rows) + " w"
            self.assertEqual(answer(text), answer(position(f"kd9 Ke0 Ph{row}", "w")))
            self.assertIn(f"h{row}", [name[:2] for name in names(text)])

    def test_generals_within_their_palaces(self):
        for column in "def":
            for row in (0, 1, 2):
                self.taken(position(f"K{column}{row} kd9 Pd5 Pe5 Pf5", "w"))
            for row in (7, 8, 9):
                self.taken(position(f"Kd0 k{column}{row} Pd5 Pe5 Pf5", "b"))


class Rows(Texts):
    def test_empty(self):
        self.refused("")

    def test_cut_short_at_any_place(self):
        for text in (SMALL, OPENING + " w"):
            for size in range(len(text)):
                self.refused(text[:size])
                self.refused(text[len(text) - size:])

    def test_cut_short_before_the_blank(self):
        for size in range(len(OPENING)):
            self.refused(OPENING[:size] + " w")

    def test_too_many_or_too_few(self):
        self.refused("9/" + SMALL)
        self.refused(SMALL.replace("/9", "", 1))
        self.refused("3k5/9/9/9/9/9/9/9/9/4K4/9 w")
        self.refused("3k5/9/9/9/9/9/9/9/9/4K4/ w")
        self.refused("/3k5/9/9/9/9/9/9/9/9/4K4 w")
        self.refused("/3k5/9/9/9/9/9/9/9/4K4 w")
        self.refused("3k5/9/9/9//9/9/9/9/4K4 w")
        self.refused("3k5/9/9/9//9/9/9/9/9/4K4 w")
        self.refused("3k5/9/9/9//9/9/9/9/9/9/4K4 w")

    def test_eight_or_ten_points(self):
        for row in ("8", "PPPPPPPP", "P7", "PPPPPPPPPP", "P9", "9P", "P8P", "8PP", "4P5", "4P3", "1"):
            self.refused(SMALL.replace("9", row, 1))
        for count in range(10):
            rows = SMALL[:-2].split("/")
            rows[count] = rows[count] + "P"
            self.refused("/".join(rows) + " w")
        self.refused("3k4/9/9/9/9/9/9/9/9/4K4 w")
        self.refused("3k5/9/9/9/9/9/9/9/9/4K3 w")
        self.refused("3k5/9/9/9/9/9/9/9/9/4K5 w")

    def test_eight_points_made_up_for_by_ten(self):
        self.refused("3k5/8/P9/9/9/9/9/9/9/4K4 w")

    def test_two_digits_beside_each_other(self):
        for row in ("45", "54", "18", "81", "333", "P44", "44P", "4P22", "111111111"):
            self.refused(SMALL.replace("9", row, 1))

    def test_zero_and_other_signs(self):
        for row in ("90", "09", "0", "4P04", "4P40", "P08", "4X4", "4x4", "4-4", "4 4", "4.4", "4\n4", "4d4", "4w4",
                    "4P4\n", ":", "4E4", "4H4", "10"):
            self.refused(SMALL.replace("9", row, 1))

    def test_every_other_byte(self):
        for byte in range(256):
            text = signs(SMALL.replace("9", "4X4", 1))
            text[text.index(ord("X"))] = byte
            good = byte in signs("ABNRCPabnrcp")
            self.assertEqual(moves(0, 65536, text)[0] > 0, good, byte)

    def test_between_the_rows(self):
        for place in [place for place, sign in enumerate(SMALL) if sign == "/"]:
            for sign in ("", " ", "\\", "|", "//", "/ ", " /", "\n", "P"):
                self.refused(SMALL[:place] + sign + SMALL[place + 1:])


class Ending(Texts):
    def test_blank(self):
        board = SMALL[:-2]
        for ending in ("", "w", " ", "  w", "\tw", "\nw", "_w", "/w", "/ w", "  "):
            self.refused(board + ending)
        self.refused(" " + SMALL)

    def test_letter(self):
        board = SMALL[:-2]
        for ending in (" W", " B", " r", " x", " -", " 1", " k", " wb", " ww", " w ", " w\n", " w/", " b -", " w 1"):
            self.refused(board + ending)

    def test_every_letter(self):
        for byte in range(256):
            given = moves(0, 65536, signs(SMALL[:-1]) + [byte])
            self.assertEqual(given[0] > 0, byte in signs("wb"), byte)
            if byte not in signs("wb"):
                self.assertEqual(given, [-3])

    def test_every_blank(self):
        for byte in range(256):
            given = moves(0, 65536, signs(SMALL[:-2]) + [byte] + signs("w"))
            self.assertEqual(given == [-3], byte != 32, byte)


class Generals(Texts):
    def test_none(self):
        self.refused(position("Ke0", "w"))
        self.refused(position("ke9", "w"))
        self.refused(position("", "w"))
        self.refused(position("Ra1 ra5", "b"))

    def test_two_of_one_side(self):
        self.refused(position("Kd0 Ke0 kf9", "w"))
        self.refused(position("Kd0 ke9 kf9", "w"))
        self.refused(position("Kd0 Ke1 ke9 kf9", "b"))
        self.refused(position("Kd0 Ka5 ke9", "b"))
        self.refused(position("Kd0 Kd1", "w"))
        self.refused(position("ke9 kd8", "b"))

    def test_outside_the_palace(self):
        for column in "abcdefghi":
            for row in range(10):
                place = f"{column}{row}"
                if column not in "def" or row > 2:
                    self.refused(position(f"K{place} " + ("kd9" if place != "d9" else "ke9"), "w"))
                if column not in "def" or row < 7:
                    self.refused(position(f"k{place} " + ("Kd0" if place != "d0" else "Ke0"), "w"))

    def test_changed_over(self):
        self.refused(position("ke0 Ke9", "w"))
        self.refused(position("ke0 Ke9", "b"))


class Long(Texts):
    def test_longest_position(self):
        text = "/".join(["PPPkPPPPP"] + ["P" * 9] * 8 + ["PPPKPPPPP"]) + " w"
        self.assertEqual(len(text), 101)
        self.taken(text)

    def test_256_bytes(self):
        self.refused("P" * 256)
        self.refused(" " * 256)
        self.refused(SMALL + " " * (256 - len(SMALL)))
        self.refused(" " * (256 - len(SMALL)) + SMALL)
        self.refused("/" * 254 + " w")
        self.refused("P" * (256 - len(SMALL)) + SMALL)
        for byte in (0, 128, 255):
            self.assertEqual(moves(0, 65536, [byte] * 256), [-3])
        self.assertEqual(moves(0, 65536, list(range(256))), [-3])


if __name__ == "__main__":
    unittest.main()
