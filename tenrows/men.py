"""How each man goes, not minding what becomes of its own general."""

from tenrows.board import FREE, ROWS
from tenrows.board import column_of, forward, general_of, in_palace, on_own_half, other_side, point_at, row_of
from tenrows.board import side_of, stands_for


def could_go(board, start, end):
    """Whether the man who stands at start could go to end, taking whom stands there."""
    man = board[start]
    side = side_of(man)
    if stands_for(board[end], side):
        return False
    kind = man.lower()
    if kind == "k":
        return general_goes(board, side, start, end)
    if kind == "a":
        return guard_goes(side, start, end)
    if kind == "b":
        return elephant_goes(board, side, start, end)
    if kind == "n":
        return horse_goes(board, start, end)
    if kind == "r":
        return chariot_goes(board, start, end)
    if kind == "c":
        return cannon_goes(board, start, end)
    return soldier_goes(side, start, end)


def general_goes(board, side, start, end):
    across = columns_apart(start, end)
    along = rows_apart(start, end)
    if abs(across) + abs(along) == 1 and in_palace(side, end):
        return True
    if board[end] != general_of(other_side(side)):
        return False
    return across == 0 and along * forward(side) > 0 and men_between(board, start, end) == 0


def guard_goes(side, start, end):
    # Only the end is asked for: a text may put a guard outside its palace, and it may step in.
    return abs(columns_apart(start, end)) == 1 and abs(rows_apart(start, end)) == 1 and in_palace(side, end)


def elephant_goes(board, side, start, end):
    if abs(columns_apart(start, end)) != 2 or abs(rows_apart(start, end)) != 2:
        return False
    between = (start + end) // 2
    # Only the end is asked for: a text may put an elephant beyond the river, and it may come back.
    return board[between] == FREE and on_own_half(side, end)


def horse_goes(board, start, end):
    across = columns_apart(start, end)
    along = rows_apart(start, end)
    if abs(across) == 2 and abs(along) == 1:
        return board[point_at(column_of(start) + across // 2, row_of(start))] == FREE
    if abs(across) == 1 and abs(along) == 2:
        return board[point_at(column_of(start), row_of(start) + along // 2)] == FREE
    return False


def chariot_goes(board, start, end):
    return in_line(start, end) and men_between(board, start, end) == 0


def cannon_goes(board, start, end):
    if not in_line(start, end):
        return False
    needed = 0 if board[end] == FREE else 1
    return men_between(board, start, end) == needed


def soldier_goes(side, start, end):
    across = columns_apart(start, end)
    along = rows_apart(start, end)
    if across == 0:
        return along == forward(side)
    return abs(across) == 1 and along == 0 and not on_own_half(side, start)


def columns_apart(start, end):
    return column_of(end) - column_of(start)


def rows_apart(start, end):
    return row_of(end) - row_of(start)


def in_line(start, end):
    return column_of(start) == column_of(end) or row_of(start) == row_of(end)


def men_between(board, start, end):
    """How many men stand between two points of one row or of one column."""
    step = 1 if column_of(start) == column_of(end) else ROWS
    men = 0
    for point in range(min(start, end) + step, max(start, end), step):
        if board[point] != FREE:
            men += 1
    return men
