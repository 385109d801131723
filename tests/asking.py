"""What the tests share: texts made from lists of men, and answers turned into lines."""

from tenrows.positions import moves

OPENING = "rnbakabnr/9/1c5c1/p1p1p1p1p/9/9/P1P1P1P1P/1C5C1/9/RNBAKABNR"


def text_of_men(places, side):
    """The text of the position in which each man of `places` stands, for instance {(4, 0): "K"}."""
    rows = []
    for row in range(9, -1, -1):
        signs = "".join(places.get((column, row), ".") for column in range(9))
        for free in range(9, 0, -1):
            signs = signs.replace("." * free, str(free))
        rows.append(signs)
    return "/".join(rows) + " " + side


def position(men, side="w"):
    """The text for men like "Ke0 kd9 Ra5"."""
    places = {}
    for man in men.split():
        place = (ord(man[1]) - ord("a"), int(man[2]))
        assert place not in places, man
        places[place] = man[0]
    return text_of_men(places, side)


def signs(text):
    return list(text.encode("latin-1"))


def answer(text, most=65536, k=0):
    return moves(k, most, signs(text))


def told(text):
    """What is told, as one text; that the first number says how long it is is looked at here."""
    given = answer(text)
    assert given[0] == len(given) - 1, given
    return bytes(given[1:]).decode("ascii")


def mark(text):
    return told(text).split("\n")[0]


def names(text):
    """The moves' names, in the order in which they are told."""
    return told(text).splitlines()[1:]


def ends(text, start):
    """Where the man at start may go, in the order told, as one text."""
    return " ".join(name[2:] for name in names(text) if name[:2] == start)
