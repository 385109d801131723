"""Wins that can be forced: whoever has no move has lost."""

from tenrows.board import after_move, other_side
from tenrows.rules import all_moves, has_move


def find_win(board, side, most):
    """The least number of moves, up to most, in which this side wins whatever is answered, and its first move.

    They are given as (number, start, end); None if there is no such win.
    """
    found = all_moves(board, side)
    for number in range(1, most + 1):
        for start, end in found:
            if has_lost(after_move(board, start, end), other_side(side), number - 1):
                return (number, start, end)
    return None


def has_lost(board, side, more):
    """Whether this side, who goes, is without a move now, or will be after at most so many more of the other's."""
    if more == 0:
        return not has_move(board, side)
    for start, end in all_moves(board, side):
        if find_win(after_move(board, start, end), other_side(side), more) is None:
            return False
    return True
