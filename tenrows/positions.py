"""The calls: each takes whole numbers and lists of bytes, and answers one list of whole numbers."""

from tenrows.board import after_move, other_side
from tenrows.counting import ways_to_follow
from tenrows.reading import read_position
from tenrows.rules import all_moves, general_is_reached
from tenrows.signs import MINUS, NEWLINE, PLUS
from tenrows.winning import find_win
from tenrows.writing import name_of_move, text_of_position

TOO_LONG = -1
OUT_OF_RANGE = -2
NO_POSITION = -3
NO_MOVE = -4
NO_WIN = 0
LARGEST_MOST = 65536
LARGEST_DEPTH = 5
LARGEST_WIN = 3


def moves(k, most, text):
    """Whether the general of who goes could be gone to, then each move there may be, a line each."""
    if not 0 <= most <= LARGEST_MOST:
        return [OUT_OF_RANGE]
    position = read_position(text)
    if position is None:
        return [NO_POSITION]
    return sized(lines_of_moves(position[0], position[1]), most)


def play(most, text, move):
    """The text of the position that the move of this name leaves."""
    if not 0 <= most <= LARGEST_MOST:
        return [OUT_OF_RANGE]
    position = read_position(text)
    if position is None:
        return [NO_POSITION]
    board = position[0]
    side = position[1]
    points = move_called(board, side, move)
    if points is None:
        return [NO_MOVE]
    left = after_move(board, points[0], points[1])
    return sized(text_of_position(left, other_side(side)), most)


def count(k, depth, text):
    """In how many ways so many moves may follow one another."""
    if not 0 <= depth <= LARGEST_DEPTH:
        return [OUT_OF_RANGE]
    position = read_position(text)
    if position is None:
        return [NO_POSITION]
    return [ways_to_follow(position[0], position[1], depth)]


def win(k, most, text):
    """In how few moves, up to most, who goes can leave the other without a move, and the first of these."""
    if not 1 <= most <= LARGEST_WIN:
        return [OUT_OF_RANGE]
    position = read_position(text)
    if position is None:
        return [NO_POSITION]
    found = find_win(position[0], position[1], most)
    if found is None:
        return [NO_WIN]
    return [found[0]] + name_of_move(found[1], found[2])


def sized(told, most):
    if len(told) > most:
        return [TOO_LONG]
    return [len(told)] + told


def lines_of_moves(board, side):
    lines = [PLUS if general_is_reached(board, side) else MINUS, NEWLINE]
    for start, end in all_moves(board, side):
        lines.extend(name_of_move(start, end) + [NEWLINE])
    return lines


def move_called(board, side, name):
    """The move there may be that has this name, as (start, end); None if none has it."""
    for start, end in all_moves(board, side):
        if name_of_move(start, end) == name:
            return (start, end)
    return None
