"""The bytes that texts and names are read from and written with."""

NEWLINE = 10
BLANK = 32
PLUS = 43
MINUS = 45
SLASH = 47
ZERO = 48
ONE = 49
NINE = 57
LETTER_A = 97
