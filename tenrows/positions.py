"""The calls: each takes whole numbers and lists of bytes, and answers one list of whole numbers."""

from tenrows.board import column_of, row_of
from tenrows.reading import read_position
from tenrows.rules import all_moves, general_is_reached

TOO_LONG = -1
OUT_OF_RANGE = -2
NO_POSITION = -3
LARGEST_MOST = 65536
NEWLINE = 10
PLUS = 43
MINUS = 45
LETTER_A = 97
DIGIT_ZERO = 48


def moves(k, most, text):
    """Whether the general of who goes could be gone to, then each move there may be, a line each."""
    if not 0 <= most <= LARGEST_MOST:
        return [OUT_OF_RANGE]
    position = read_position(text)
    if position is None:
        return [NO_POSITION]
    return sized(lines_of_moves(position[0], position[1]), most)


def sized(told, most):
    if len(told) > most:
        return [TOO_LONG]
    return [len(told)] + told


def lines_of_moves(board, side):
    lines = [PLUS if general_is_reached(board, side) else MINUS, NEWLINE]
    for start, end in all_moves(board, side):
        lines.extend(name_of_point(start) + name_of_point(end) + [NEWLINE])
    return lines


def name_of_point(point):
    return [LETTER_A + column_of(point), DIGIT_ZERO + row_of(point)]
