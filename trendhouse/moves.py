"""Moves: which rooms may come next behind a room, and why another one can't."""

from trendhouse.rooms import TRENDS, check_room, first_broken, is_mark, one_of_each


def nexts(house, room):
    """All rooms that may come next behind the room, rising."""
    check_room(house, room)
    ways = [ways_on(marks, state) for (_, marks), state in zip(house.things(), room)]
    ties = house.ties()
    return [other for other in one_of_each(ways) if other != room and first_broken(ties, other) is None]


def why_not(house, room, other):
    """Why the other room can't come next behind the room: a word and a number, None if it may."""
    check_room(house, room)
    check_room(house, other)
    if room == other:
        return ("same", 0)
    for number, (_, marks) in enumerate(house.things()):
        if other[number] not in ways_on(marks, room[number]):
            return ("thing", number)
    tie = first_broken(house.ties(), other)
    if tie is None:
        return None
    return ("tie", tie)


def ways_on(marks, state):
    """Each (place, trend) with which a thing in this one may go on, rising, this one among them."""
    place, trend = state
    if is_mark(place):
        return ways_from_mark(place)
    still_between = [(place, turned) for turned in TRENDS]
    mark = place + trend
    if is_mark(mark) and 0 < mark < 2 * len(marks):
        # Some ways are told by both: a thing may turn back at the mark, or ahead of it.
        return sorted(set(still_between + ways_from_mark(mark)))
    return still_between


def ways_from_mark(place):
    """Each (place, trend) with which a thing at a mark may go on, rising."""
    return [(place - 1, -1), (place, 0), (place + 1, 1)]
