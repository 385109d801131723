"""How each man goes, not minding what becomes of its own general."""

from tenrows.board import FREE, POINTS, ROWS
from tenrows.board import column_of, forward, general_of, in_palace, on_own_half, other_side, point_at, row_of
from tenrows.board import side_of, stands_for

# How far from their points, as numbers, the men who don't go along lines may come. Where such a step runs over the
# edge of the board it ends on a point that could_go refuses, so only the first and the last point are minded.
STEPS = {
    "a": (-11, -9, 9, 11),
    "b": (-22, -18, 18, 22),
    "n": (-21, -19, -12, -8, 8, 12, 19, 21),
    "p": (-10, -1, 1, 10),
}
# Those of them that don't end in line with their start.
SLANTED_STEPS = (-22, -21, -19, -18, -12, -11, -9, -8, 8, 9, 11, 12, 18, 19, 21, 22)


def ends_to_try(man, start):
    """Points in their order, among which are all to which such a man could go."""
    kind = man.lower()
    if kind in STEPS:
        return points_by_steps(start, STEPS[kind])
    return points_in_line(start)


def starts_to_try(end):
    """Points among which are all from which a man could go to this one."""
    return points_in_line(end) + points_by_steps(end, SLANTED_STEPS)


def points_by_steps(point, steps):
    return [point + step for step in steps if 0 <= point + step < POINTS]


def points_in_line(point):
    """The points of this one's column and row, in their order."""
    lowest = point_at(column_of(point), 0)
    before = list(range(row_of(point), lowest, ROWS))
    return before + list(range(lowest, lowest + ROWS)) + list(range(point + ROWS, POINTS, ROWS))


def could_go(board, start, end):
    """Whether the man who stands at start could go to end, taking whom stands there."""
    man = board[start]
    side = side_of(man)
    if stands_for(board[end], side):
        return False
    kind = man.lower()
    if kind == "k":
        return general_goes(board, side, start, end)
    if kind == "a":
        return guard_goes(side, start, end)
    if kind == "b":
        return elephant_goes(board, side, start, end)
    if kind == "n":
        return horse_goes(board, start, end)
    if kind == "r":
        return chariot_goes(board, start, end)
    if kind == "c":
        return cannon_goes(board, start, end)
    return soldier_goes(side, start, end)


def general_goes(board, side, start, end):
    across = columns_apart(start, end)
    along = rows_apart(start, end)
    if abs(across) + abs(along) == 1 and in_palace(side, end):
        return True
    if board[end] != general_of(other_side(side)):
        return False
    return across == 0 and along * forward(side) > 0 and men_between(board, start, end) == 0


def guard_goes(side, start, end):
    # Only the end is asked for: a text may put a guard outside its palace, and it may step in.
    return abs(columns_apart(start, end)) == 1 and abs(rows_apart(start, end)) == 1 and in_palace(side, end)


def elephant_goes(board, side, start, end):
    if abs(columns_apart(start, end)) != 2 or abs(rows_apart(start, end)) != 2:
        return False
    between = (start + end) // 2
    # Only the end is asked for: a text may put an elephant beyond the river, and it may come back.
    return board[between] == FREE and on_own_half(side, end)


def horse_goes(board, start, end):
    across = columns_apart(start, end)
    along = rows_apart(start, end)
    if abs(across) == 2 and abs(along) == 1:
        return board[point_at(column_of(start) + across // 2, row_of(start))] == FREE
    if abs(across) == 1 and abs(along) == 2:
        return board[point_at(column_of(start), row_of(start) + along // 2)] == FREE
    return False


def chariot_goes(board, start, end):
    return in_line(start, end) and men_between(board, start, end) == 0


def cannon_goes(board, start, end):
    if not in_line(start, end):
        return False
    needed = 0 if board[end] == FREE else 1
    return men_between(board, start, end) == needed


def soldier_goes(side, start, end):
    across = columns_apart(start, end)
    along = rows_apart(start, end)
    if across == 0:
        return along == forward(side)
    return abs(across) == 1 and along == 0 and not on_own_half(side, start)


def columns_apart(start, end):
    return column_of(end) - column_of(start)


def rows_apart(start, end):
    return row_of(end) - row_of(start)


def in_line(start, end):
    return column_of(start) == column_of(end) or row_of(start) == row_of(end)


def men_between(board, start, end):
    """How many men stand between two points of one row or of one column."""
    step = 1 if column_of(start) == column_of(end) else ROWS
    men = 0
    for point in range(min(start, end) + step, max(start, end), step):
        if board[point] != FREE:
            men += 1
    return men
