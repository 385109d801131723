"""In how many ways moves may follow one another."""

from tenrows.board import after_move, other_side
from tenrows.rules import all_moves


def ways_to_follow(board, side, depth):
    """In how many ways so many moves may follow one another, the first of them this side's."""
    if depth == 0:
        return 1
    # Each board that may stand then, and in how many ways it may come about: many ways lead to the same board.
    ways = {board: 1}
    for step in range(depth - 1):
        ways = ways_a_move_on(ways, side)
        side = other_side(side)
    return sum([ways[reached] * len(all_moves(reached, side)) for reached in ways])


def ways_a_move_on(ways, side):
    following = {}
    for board, number in ways.items():
        for start, end in all_moves(board, side):
            left = after_move(board, start, end)
            following[left] = following.get(left, 0) + number
    return following
