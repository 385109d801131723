"""The calls on many positions, each compared with the rules as reference.py tells them."""

import unittest

from tests.asking import counted, played, text_of_men, told, whole, winning, won
from tests.reference import least_win, lines, ways

MEN = "AABBNNRRCCPPPPPaabbnnrrccppppp"
SHORT_MEN = "ABNPabnp"


class Numbers:
    """Numbers that look drawn by lot, and are the same each time."""

    def __init__(self, seed):
        self.state = seed

    def below(self, limit):
        self.state = (self.state * 6364136223846793005 + 1442695040888963407) % 2 ** 64
        return (self.state >> 33) % limit


def drawn(numbers, most_men, men=MEN):
    places = {(3 + numbers.below(3), numbers.below(3)): "K", (3 + numbers.below(3), 7 + numbers.below(3)): "k"}
    for step in range(numbers.below(most_men + 1)):
        place = (numbers.below(9), numbers.below(10))
        if place not in places:
            places[place] = men[numbers.below(len(men))]
    return places


def drawn_seeing(numbers, most_men, men=MEN):
    """Generals that see one another, among other men; and the name of the move by which red's takes black's."""
    column = 3 + numbers.below(3)
    others = drawn(numbers, most_men, men)
    places = {place: man for place, man in others.items() if place[0] != column and man not in "Kk"}
    red, black = numbers.below(3), 7 + numbers.below(3)
    places[column, red], places[column, black] = "K", "k"
    return places, f"{'abcdefghi'[column]}{red}{'abcdefghi'[column]}{black}"


class Many(unittest.TestCase):
    def compare(self, seed, most_men, times):
        numbers = Numbers(seed)
        for step in range(times):
            places = drawn(numbers, most_men)
            for side in "wb":
                text = text_of_men(places, side)
                self.assertEqual(told(text), lines(places, side == "w"), text)

    def test_few_men(self):
        self.compare(1, 5, 600)

    def test_some_men(self):
        self.compare(2, 20, 400)

    def test_crowded(self):
        self.compare(3, 90, 150)

    def test_generals_that_see_one_another(self):
        numbers = Numbers(4)
        taken = 0
        for step in range(400):
            places, name = drawn_seeing(numbers, 12)
            for side in "wb":
                expected = lines(places, side == "w")
                self.assertEqual(expected[0], "+")
                self.assertEqual(told(text_of_men(places, side)), expected)
                taken += name in expected
        self.assertGreater(taken, 50)

    def test_moves_are_played(self):
        numbers = Numbers(5)
        for step in range(60):
            places = drawn(numbers, 3 + step)
            for side, other in ("wb", "bw"):
                text = text_of_men(places, side)
                for move in lines(places, side == "w").splitlines()[1:]:
                    left = dict(places)
                    left[place_of(move[2:])] = left.pop(place_of(move[:2]))
                    self.assertEqual(played(text, move), whole(text_of_men(left, other)), (text, move))

    def test_other_names_are_refused(self):
        numbers = Numbers(6)
        for step in range(400):
            places = drawn(numbers, 30)
            side = "wb"[numbers.below(2)]
            move = "".join("abcdefghi"[numbers.below(9)] + str(numbers.below(10)) for end in range(2))
            there = move in lines(places, side == "w").splitlines()
            self.assertEqual(played(text_of_men(places, side), move) == [-4], not there, move)


class ManyCounted(unittest.TestCase):
    def compare(self, places, depths):
        for side in "wb":
            text = text_of_men(places, side)
            for depth in depths:
                self.assertEqual(counted(text, depth), [ways(places, side == "w", depth)], (text, depth))

    def test_few_men(self):
        numbers = Numbers(7)
        for step in range(40):
            self.compare(drawn(numbers, 4), (0, 1, 2))
        for step in range(8):
            self.compare(drawn(numbers, 3), (3,))

    def test_some_men(self):
        numbers = Numbers(8)
        for step in range(4):
            self.compare(drawn(numbers, 20), (1, 2))

    def test_generals_that_see_one_another(self):
        numbers = Numbers(9)
        for step in range(40):
            self.compare(drawn_seeing(numbers, 4)[0], (1, 2, 3))

    def test_deep(self):
        numbers = Numbers(10)
        for step in range(10):
            self.compare(drawn(numbers, 1), (4,))
            self.compare(drawn_seeing(numbers, 2)[0], (4,))


class ManyWon(unittest.TestCase):
    def compare(self, places, most):
        """How many moves the win takes, if there is one, of red and of black."""
        numbers = []
        for side in "wb":
            text = text_of_men(places, side)
            expected = least_win(places, side == "w", most)
            self.assertEqual(won(text, most), winning(*expected) if expected else [0], (text, most))
            numbers.append(expected[0] if expected else 0)
        return numbers

    def test_in_one(self):
        numbers = Numbers(11)
        found = []
        for step in range(100):
            found += self.compare(drawn(numbers, 12), 1)
            found += self.compare(drawn_seeing(numbers, 6)[0], 1)
        self.assertGreater(found.count(1), 50)

    def test_in_two(self):
        numbers = Numbers(12)
        found = []
        for step in range(40):
            found += self.compare(drawn(numbers, 3), 2)
            found += self.compare(drawn_seeing(numbers, 4)[0], 2)
        self.assertGreater(found.count(2), 3)

    def test_in_three(self):
        numbers = Numbers(13)
        found = []
        for step in range(40):
            found += self.compare(drawn(numbers, 5, SHORT_MEN), 3)
            found += self.compare(drawn_seeing(numbers, 3)[0], 3)
        self.assertGreater(found.count(3), 3)
        self.assertGreater(found.count(2), 0)


def place_of(name):
    return (ord(name[0]) - ord("a"), int(name[1]))


if __name__ == "__main__":
    unittest.main()
