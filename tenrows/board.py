"""The board: its ninety points, the two sides, their palaces and halves.

A point is the number 10 * column + row, so that points as numbers stand in the order of their names (a0, a1 .. i9).
A board is a text of ninety signs, one for each point: the letter of the man who stands there, or FREE. So a board never
changes, and can be looked up in a dict.
"""

COLUMNS = 9
ROWS = 10
POINTS = 90
FREE = "."
RED = "w"
BLACK = "b"


def point_at(column, row):
    return column * ROWS + row


def column_of(point):
    return point // ROWS


def row_of(point):
    return point % ROWS


def side_of(man):
    return RED if man.isupper() else BLACK


def other_side(side):
    return BLACK if side == RED else RED


def stands_for(man, side):
    """Whether a man of this side is meant; FREE is of neither side."""
    return man.isupper() if side == RED else man.islower()


def general_of(side):
    return "K" if side == RED else "k"


def forward(side):
    return 1 if side == RED else -1


def in_palace(side, point):
    if not 3 <= column_of(point) <= 5:
        return False
    return row_of(point) <= 2 if side == RED else row_of(point) >= 7


def on_own_half(side, point):
    return row_of(point) <= 4 if side == RED else row_of(point) >= 5


def after_move(board, start, end):
    """The board that a move leaves."""
    left = list(board)
    left[end] = left[start]
    left[start] = FREE
    return "".join(left)
