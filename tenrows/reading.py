"""The text of a position, read from its bytes."""

from tenrows.board import BLACK, COLUMNS, FREE, POINTS, RED, ROWS
from tenrows.board import general_of, in_palace, point_at
from tenrows.signs import BLANK, NINE, ONE, SLASH, ZERO

SIDES = {119: "w", 98: "b"}
MEN = {
    75: "K", 65: "A", 66: "B", 78: "N", 82: "R", 67: "C", 80: "P",
    107: "k", 97: "a", 98: "b", 110: "n", 114: "r", 99: "c", 112: "p",
}


def read_position(text):
    """The board and the side that goes, as a tuple; None if the text is no position."""
    size = len(text)
    if size < 2 or text[size - 2] != BLANK or text[size - 1] not in SIDES:
        return None
    board = read_board(text[:size - 2])
    if board is None or not has_one_general(board, RED) or not has_one_general(board, BLACK):
        return None
    return (board, SIDES[text[size - 1]])


def read_board(signs):
    """The board that ten rows with a slash between tell; None if they tell none."""
    rows = split_rows(signs)
    if len(rows) != ROWS:
        return None
    board = [FREE] * POINTS
    for place, row in enumerate(rows):
        men = read_row(row)
        if men is None:
            return None
        for column, man in enumerate(men):
            board[point_at(column, ROWS - 1 - place)] = man
    return "".join(board)


def split_rows(signs):
    rows = []
    row = []
    for sign in signs:
        if sign == SLASH:
            rows.append(row)
            row = []
        else:
            row.append(sign)
    rows.append(row)
    return rows


def read_row(row):
    """What stands on the nine points of a row, from a on; None if these signs tell no row."""
    men = []
    behind_digit = False
    for sign in row:
        if sign in MEN:
            men.append(MEN[sign])
            behind_digit = False
        elif ONE <= sign <= NINE and not behind_digit:
            men.extend([FREE] * (sign - ZERO))
            behind_digit = True
        else:
            return None
    return men if len(men) == COLUMNS else None


def has_one_general(board, side):
    general = general_of(side)
    return board.count(general) == 1 and in_palace(side, board.index(general))
