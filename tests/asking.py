"""What the tests share: texts made from lists of men, and answers turned into lines."""

from tenrows.positions import count, moves, play, win

OPENING = "rnbakabnr/9/1c5c1/p1p1p1p1p/9/9/P1P1P1P1P/1C5C1/9/RNBAKABNR"


def text_of_men(places, side):
    """The text of the position in which each man of `places` stands, for instance {(4, 0): "K"}."""
    rows = []
    for row in range(9, -1, -1):
        signs = "".join(places.get((column, row), ".") for column in range(9))
        for free in range(9, 0, -1):
            signs = signs.replace("." * free, str(free))
        rows.append(signs)
    return "/".join(rows) + " " + side


def position(men, side="w"):
    """The text for men like "Ke0 kd9 Ra5"."""
    places = {}
    for man in men.split():
        place = (ord(man[1]) - ord("a"), int(man[2]))
        assert place not in places, man
        places[place] = man[0]
    return text_of_men(places, side)


NO_POSITIONS = (
    "", " ", " w", "x", "w", OPENING, OPENING + " ", OPENING + " x", OPENING + " W", OPENING + "  w", OPENING + " w ",
    OPENING + " wb", " " + OPENING + " w", OPENING[:-1] + " w", OPENING + "/9 w", "9/" + OPENING + " w",
    OPENING.replace("9", "45", 1) + " w", OPENING.replace("9", "8", 1) + " w", OPENING.replace("9", "90", 1) + " w",
    OPENING.replace("9", "4x4", 1) + " w", OPENING.replace("K", "1") + " w", OPENING.replace("k", "1") + " w",
    OPENING.replace("K", "k") + " w", OPENING.replace("9", "K8", 1) + " w", OPENING.replace("/", " ") + " w",
    position("Ke3 kd9", "w"), position("Kg0 kd9", "w"), position("Ke0 kd6", "w"), position("ke0 Kd9", "w"),
    "P" * 256, "/" * 254 + " w", (OPENING + " w").ljust(256),
)


def signs(text):
    return list(text.encode("latin-1"))


def answer(text, most=65536, k=0):
    return moves(k, most, signs(text))


def told(text):
    """What is told, as one text; that the first number says how long it is is looked at here."""
    given = answer(text)
    assert given[0] == len(given) - 1, given
    return bytes(given[1:]).decode("ascii")


def mark(text):
    return told(text).split("\n")[0]


def names(text):
    """The moves' names, in the order in which they are told."""
    return told(text).splitlines()[1:]


def ends(text, start):
    """Where the man at start may go, in the order told, as one text."""
    return " ".join(name[2:] for name in names(text) if name[:2] == start)


def played(text, move, most=65536):
    """What play answers, whole."""
    return play(most, signs(text), signs(move))


def counted(text, depth, k=0):
    """What count answers, whole."""
    return count(k, depth, signs(text))


def won(text, most=3, k=0):
    """What win answers, whole."""
    return win(k, most, signs(text))


def winning(number, move):
    """The answer that tells a win."""
    return [number] + signs(move)


def whole(text):
    """The answer that tells this text."""
    return [len(text)] + signs(text)


def after(text, move):
    """The text that a move leaves, made from the text alone."""
    rows = [list("".join("." * int(sign) if sign.isdigit() else sign for sign in row)) for row in text[:-2].split("/")]
    start = (9 - int(move[1]), ord(move[0]) - 97)
    end = (9 - int(move[3]), ord(move[2]) - 97)
    rows[end[0]][end[1]] = rows[start[0]][start[1]]
    rows[start[0]][start[1]] = "."
    left = "/".join("".join(row) for row in rows)
    for free in range(9, 0, -1):
        left = left.replace("." * free, str(free))
    return left + (" b" if text[-1] == "w" else " w")


class Fixed(list):
    """A list that can't be changed: who tries fails."""

    def refuse(self, *rest):
        raise AssertionError("the list handed in was changed")

    __setitem__ = __delitem__ = __iadd__ = __imul__ = refuse
    append = extend = insert = pop = remove = clear = sort = reverse = refuse
