"""The rules written a second time, another way round: from each man outward, over columns and rows.

It serves to compare the program with on many positions.
"""

AROUND = ((0, 1), (1, 0), (0, -1), (-1, 0))
SLANTWISE = ((1, 1), (1, -1), (-1, 1), (-1, -1))


def on_board(place):
    return 0 <= place[0] <= 8 and 0 <= place[1] <= 9


def palace(red):
    return {(column, row) for column in (3, 4, 5) for row in ((0, 1, 2) if red else (7, 8, 9))}


def half(red):
    return {(column, row) for column in range(9) for row in (range(5) if red else range(5, 10))}


def ray(place, step):
    place = (place[0] + step[0], place[1] + step[1])
    while on_board(place):
        yield place
        place = (place[0] + step[0], place[1] + step[1])


def aims(places, place):
    """Where the man at a place could go, were there no own men and no general to mind."""
    man = places[place]
    red = man.isupper()
    x, y = place
    kind = man.upper()
    if kind == "K":
        for dx, dy in AROUND:
            if (x + dx, y + dy) in palace(red):
                yield (x + dx, y + dy)
        seen = [there for there in ray(place, (0, 1 if red else -1)) if there in places]
        if seen and places[seen[0]] == ("k" if red else "K"):
            yield seen[0]
    elif kind == "A":
        for dx, dy in SLANTWISE:
            if (x + dx, y + dy) in palace(red):
                yield (x + dx, y + dy)
    elif kind == "B":
        for dx, dy in SLANTWISE:
            if (x + dx, y + dy) not in places and (x + 2 * dx, y + 2 * dy) in half(red):
                yield (x + 2 * dx, y + 2 * dy)
    elif kind == "N":
        for dx, dy in AROUND:
            if (x + dx, y + dy) not in places:
                yield (x + 2 * dx + dy, y + 2 * dy + dx)
                yield (x + 2 * dx - dy, y + 2 * dy - dx)
    elif kind == "P":
        yield (x, y + (1 if red else -1))
        if place not in half(red):
            yield (x + 1, y)
            yield (x - 1, y)
    else:
        for step in AROUND:
            yield from line_aims(places, place, step, kind == "C")


def line_aims(places, place, step, cannon):
    met = 0
    for there in ray(place, step):
        if there in places:
            met += 1
            if met == (2 if cannon else 1):
                yield there
        elif met == 0:
            yield there


def goes(places, red):
    for place, man in places.items():
        if man.isupper() == red:
            for there in aims(places, place):
                if on_board(there) and (there not in places or places[there].isupper() != red):
                    yield (place, there)


def reached(places, red):
    general = "K" if red else "k"
    return any(places.get(there) == general for place, there in goes(places, not red))


def name(place):
    return "abcdefghi"[place[0]] + str(place[1])


def leavings(places, red):
    """What each move there may be leaves, by the move's name."""
    left_by_name = {}
    for place, there in goes(places, red):
        left = dict(places)
        left[there] = left.pop(place)
        if not reached(left, red):
            left_by_name[name(place) + name(there)] = left
    return left_by_name


def lines(places, red):
    """All that moves tells of a position, as one text."""
    return "\n".join(["+" if reached(places, red) else "-"] + sorted(leavings(places, red))) + "\n"


def ways(places, red, depth):
    """In how many ways so many moves may follow one another, gone through one by one."""
    if depth == 0:
        return 1
    return sum(ways(left, not red, depth - 1) for left in leavings(places, red).values())


def least_win(places, red, most):
    """In how many moves who goes wins at the soonest, up to most, and by which first: (m, name), or None.

    The moves are gone through once; as soon as one wins, only those that win sooner are looked for.
    """
    best = None
    for called, left in sorted(leavings(places, red).items()):
        more = longest_stand(left, not red, most - 1) if most > 0 else None
        if more is not None:
            best = (more + 1, called)
            most = more
    return best


def longest_stand(places, red, most):
    """How many moves more the other needs at the most until who goes has none; None if more than most, or never."""
    longest = 0
    for left in leavings(places, red).values():
        stand = least_win(left, not red, most)
        if stand is None:
            return None
        longest = max(longest, stand[0])
    return longest
