"""What several tests need: sample houses, and what DOC.md says of rooms told a second way, by numbers."""

import random
from fractions import Fraction
from itertools import pairwise, permutations, product
from unittest import TestCase

from trendhouse.errors import BadHouse, BadRoom, BadRun, BadText, TrendError

WORDS = ("with", "against", "sum", "product", "rate", "under", "over")

# One, two and three things, with one, two and three marks, near and far, at both bounds.
THINGS = (
    [("a", (0,))],
    [("abcdefgh", (-99, 99))],
    [("a", (-2, 0, 2))],
    [("a", (-99,)), ("ab", (97, 99))],
    [("level", (-99, 0, 99)), ("flow", (5, 7))],
    [("a", (0,)), ("b", (1,)), ("c", (-1,))],
    [("x", (-99, -97)), ("xy", (3,)), ("xyz", (-50, 0, 99))],
)


def all_ties(things):
    """Every tie that may be between these things."""
    numbers = range(len(things))
    marks = [range(len(of)) for _, of in things]
    found = []
    for a, b in permutations(numbers, 2):
        found += [("with", a, b), ("against", a, b)]
    for a, b, c in product(numbers, repeat=3):
        if a not in (b, c):
            found += [("sum", a, b, c), ("product", a, b, c)]
    for a, b in product(numbers, repeat=2):
        found += [("rate", a, b, k) for k in marks[b]]
    for a in numbers:
        for k in marks[a]:
            found += [("under", a, k), ("over", a, k)]
    return found


def number_at(marks, place):
    """A number that a thing with these marks may have in the place."""
    at = place // 2
    if place % 2 == 1:
        return marks[at]
    return marks[at] - 1 if at < len(marks) else marks[-1] + 1


def sign(number):
    return (number > 0) - (number < 0)


def keeps(things, room, tie):
    """Whether the room keeps the tie, found from numbers and speeds that fit the room."""
    word, *at = tie
    place = [number_at(marks, place) for (_, marks), (place, _) in zip(things, room)]
    trend = [trend for _, trend in room]
    if word in ("under", "over"):
        mark = things[at[0]][1][at[1]]
        return place[at[0]] <= mark if word == "under" else place[at[0]] >= mark
    if word == "rate":
        return trend[at[0]] == sign(place[at[1]] - things[at[1]][1][at[2]])
    told = trend[at[0]]
    if word in ("with", "against"):
        return told == (trend[at[1]] if word == "with" else 0 - trend[at[1]])
    speeds = [[trend[number], 2 * trend[number]] for number in at[1:]]
    if word == "product":
        return told in [sign(b * c) for b in speeds[0] for c in speeds[1]]
    return told in [sign(b + c) for b in speeds[0] for c in speeds[1]]


def every_pair(marks):
    """Each place and trend of a thing with these marks, and some beyond."""
    return list(product(range(-2, 2 * len(marks) + 4), range(-2, 3)))


def is_pair(marks, pair):
    place, trend = pair
    if place < 0 or place > 2 * len(marks):
        return False
    return trend == 0 if place % 2 == 1 else abs(trend) <= 1


def every_room(things):
    """Each room of these things, whatever their ties, rising."""
    pairs = [[pair for pair in every_pair(marks) if is_pair(marks, pair)] for _, marks in things]
    return sorted(product(*pairs))


def some_houses():
    """Houses with no tie, each one tie, and some with two to six."""
    chosen = random.Random(5)
    for things in THINGS:
        ties = all_ties(things)
        yield things, []
        singles = ties if len(ties) <= 20 else chosen.sample(ties, 20)
        for tie in singles:
            yield things, [tie]
        for many in range(2, 7):
            yield things, [chosen.choice(ties) for _ in range(many)]


def first_not_kept(things, ties, room):
    return next((number for number, tie in enumerate(ties) if not keeps(things, room, tie)), None)


def rooms_to_try(things, ties, many):
    """Some rooms that keep all ties, and some whatever they keep."""
    every = every_room(things)
    kept = [room for room in every if first_not_kept(things, ties, room) is None]
    for rooms in (every, kept):
        yield from rooms[::len(rooms) // many + 1]


def crowded_houses(seed, many):
    """Houses of two and three things with several ties, which let few rooms be."""
    chosen = random.Random(seed)
    for _ in range(many):
        count = chosen.choice((1, 2, 2, 3))
        things = [(name, random_marks(chosen)) for name in ("a", "ab", "b")[:count]]
        ties = all_ties(things)
        yield things, [chosen.choice(ties) for _ in range(chosen.randint(1, 5))]


def random_marks(chosen):
    marks = [chosen.randint(-99, 60)]
    for _ in range(chosen.randint(0, 2)):
        marks.append(marks[-1] + chosen.choice((2, 3, 5, 11)))
    return tuple(marks)


def ways_on(marks, state):
    """Each (place, trend) that one thing may go on with, rising: where it is at the end, and then from there."""
    place, trend = state
    ends = [place]
    if place + trend in range(1, 2 * len(marks), 2):
        ends.append(place + trend)
    found = set()
    for end in ends:
        at_mark = end % 2 == 1
        found |= {(end + trend if at_mark else end, trend) for trend in (-1, 0, 1)}
    return sorted(found)


def rooms_behind(things, ties, room):
    """All rooms that may come next behind the room, rising."""
    ways = [ways_on(marks, state) for (_, marks), state in zip(things, room)]
    return [other for other in sorted(product(*ways))
            if other != room and first_not_kept(things, ties, other) is None]


def place_of(marks, number):
    return sum(1 if number == mark else 2 for mark in marks if mark <= number)


def rooms_of_hour(things, row, later):
    """The rooms of one hour, each found from the middle of the time between two crossings."""
    times = {Fraction(0), Fraction(1)}
    for (_, marks), start, end in zip(things, row, later):
        times |= {Fraction(mark - start, end - start) for mark in marks if start != end}
    found = []
    for begun, over in pairwise(sorted(time for time in times if 0 <= time <= 1)):
        middle = (begun + over) / 2
        found.append(tuple((place_of(marks, start + (end - start) * middle), sign(end - start))
                           for (_, marks), start, end in zip(things, row, later)))
    return found


def rooms_of_run(things, rows):
    """The rooms of a run, none the same as the one ahead."""
    found = [room for row, later in pairwise(rows) for room in rooms_of_hour(things, row, later)]
    return [room for at, room in enumerate(found) if at == 0 or found[at - 1] != room]


class Refusing(TestCase):
    """Tests of what is refused because it is no room."""

    def refused(self, ask, *told):
        with self.assertRaises(BadRoom) as caught:
            ask(*told)
        self.assertIsInstance(caught.exception, TrendError)
        self.assertIsInstance(caught.exception, ValueError)
        self.assertNotIsInstance(caught.exception, (BadHouse, BadRun, BadText))
