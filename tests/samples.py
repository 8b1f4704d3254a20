"""What several tests need: sample houses, and what DOC.md says of rooms told a second way, by numbers."""

from itertools import permutations, product

WORDS = ("with", "against", "sum", "product", "rate", "under", "over")

# One, two and three things, with one, two and three marks, near and far, at both bounds.
THINGS = (
    [("a", (0,))],
    [("abcdefgh", (-99, 99))],
    [("a", (-2, 0, 2))],
    [("a", (-99,)), ("ab", (97, 99))],
    [("level", (-99, 0, 99)), ("flow", (5, 7))],
    [("a", (0,)), ("b", (1,)), ("c", (-1,))],
    [("x", (-99, -97)), ("xy", (3,)), ("xyz", (-50, 0, 99))],
)


def all_ties(things):
    """Every tie that may be between these things."""
    numbers = range(len(things))
    marks = [range(len(of)) for _, of in things]
    found = []
    for a, b in permutations(numbers, 2):
        found += [("with", a, b), ("against", a, b)]
    for a, b, c in product(numbers, repeat=3):
        if a not in (b, c):
            found += [("sum", a, b, c), ("product", a, b, c)]
    for a, b in product(numbers, repeat=2):
        found += [("rate", a, b, k) for k in marks[b]]
    for a in numbers:
        for k in marks[a]:
            found += [("under", a, k), ("over", a, k)]
    return found


def number_at(marks, place):
    """A number that a thing with these marks may have in the place."""
    at = place // 2
    if place % 2 == 1:
        return marks[at]
    return marks[at] - 1 if at < len(marks) else marks[-1] + 1


def sign(number):
    return (number > 0) - (number < 0)


def keeps(things, room, tie):
    """Whether the room keeps the tie, found from numbers and speeds that fit the room."""
    word, *at = tie
    place = [number_at(marks, place) for (_, marks), (place, _) in zip(things, room)]
    trend = [trend for _, trend in room]
    if word in ("under", "over"):
        mark = things[at[0]][1][at[1]]
        return place[at[0]] <= mark if word == "under" else place[at[0]] >= mark
    if word == "rate":
        return trend[at[0]] == sign(place[at[1]] - things[at[1]][1][at[2]])
    told = trend[at[0]]
    if word in ("with", "against"):
        return told == (trend[at[1]] if word == "with" else 0 - trend[at[1]])
    speeds = [[trend[number], 2 * trend[number]] for number in at[1:]]
    if word == "product":
        return told in [sign(b * c) for b in speeds[0] for c in speeds[1]]
    return told in [sign(b + c) for b in speeds[0] for c in speeds[1]]


def every_pair(marks):
    """Each place and trend of a thing with these marks, and some beyond."""
    return list(product(range(-2, 2 * len(marks) + 4), range(-2, 3)))


def is_pair(marks, pair):
    place, trend = pair
    if place < 0 or place > 2 * len(marks):
        return False
    return trend == 0 if place % 2 == 1 else abs(trend) <= 1


def every_room(things):
    """Each room of these things, whatever their ties, rising."""
    pairs = [[pair for pair in every_pair(marks) if is_pair(marks, pair)] for _, marks in things]
    return sorted(product(*pairs))
