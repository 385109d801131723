"""Which moves there may be: those that leave the own general where no man of the other side could go."""

from tenrows.board import POINTS, after_move, general_of, other_side, stands_for
from tenrows.men import could_go, ends_to_try, starts_to_try


def general_is_reached(board, side):
    """Whether a man of the other side could go to this side's general; never, once that has been taken."""
    if general_of(side) not in board:
        return False
    general = board.index(general_of(side))
    other = other_side(side)
    for start in starts_to_try(general):
        if stands_for(board[start], other) and could_go(board, start, general):
            return True
    return False


def may_move(board, side, start, end):
    if not could_go(board, start, end):
        return False
    return not general_is_reached(after_move(board, start, end), side)


def moves_from(board, side, start):
    return [(start, end) for end in ends_to_try(board[start], start) if may_move(board, side, start, end)]


def all_moves(board, side):
    """Each move there may be, as (start, end), in the order of the names."""
    found = []
    for start in range(POINTS):
        if stands_for(board[start], side):
            found.extend(moves_from(board, side, start))
    return found


def has_move(board, side):
    """Whether there is a move at all: the first that is found will do."""
    for start in range(POINTS):
        if stands_for(board[start], side) and has_move_from(board, side, start):
            return True
    return False


def has_move_from(board, side, start):
    for end in ends_to_try(board[start], start):
        if may_move(board, side, start, end):
            return True
    return False
