"""Positions and moves, written as bytes."""

from tenrows.board import COLUMNS, FREE, ROWS
from tenrows.board import column_of, point_at, row_of
from tenrows.signs import BLANK, LETTER_A, SLASH, ZERO


def name_of_move(start, end):
    return name_of_point(start) + name_of_point(end)


def name_of_point(point):
    return [LETTER_A + column_of(point), ZERO + row_of(point)]


def text_of_position(board, side):
    """The text that reading takes for this board and side; a side whose general was taken is written too."""
    text = text_of_row(board, ROWS - 1)
    for row in range(ROWS - 2, -1, -1):
        text.append(SLASH)
        text.extend(text_of_row(board, row))
    return text + [BLANK, ord(side)]


def text_of_row(board, row):
    text = []
    free = 0
    for column in range(COLUMNS):
        man = board[point_at(column, row)]
        if man == FREE:
            free += 1
        else:
            text.extend(digit_for(free))
            text.append(ord(man))
            free = 0
    return text + digit_for(free)


def digit_for(free):
    """So many free points as one digit: none at all where there is no free point."""
    return [ZERO + free] if free > 0 else []
