"""What may come of a room in the end, and by how many hours one of some rooms comes in every case."""

from trendhouse.moves import nexts
from trendhouse.rooms import check_room


def reach(house, room):
    """All rooms that may come from the room on, that one too, rising."""
    check_room(house, room)
    return sorted(nexts_of_each(house, room, {}))


def comes_by(house, room, goals):
    """By how many hours one of the goals is come to in every case, None if it needn't be."""
    check_room(house, room)
    for goal in goals:
        check_room(house, goal)
    wanted = {goal: True for goal in goals}
    nexts_of = nexts_of_each(house, room, wanted)
    return hours_of_each(house, nexts_of, wanted).get(room)


def nexts_of_each(house, room, ends):
    """The nexts of each room that may come from the room on; nothing comes behind the ends."""
    nexts_of = {}
    waiting = [room]
    while waiting:
        at = waiting.pop()
        if at not in nexts_of:
            nexts_of[at] = [] if at in ends else nexts(house, at)
            waiting.extend(nexts_of[at])
    return nexts_of


def hours_of_each(house, nexts_of, wanted):
    """By how many hours a wanted room is come to, for each room from which it is in every case."""
    hours = {}
    ahead_of = rooms_ahead(nexts_of)
    unknown = {room: len(others) for room, others in nexts_of.items()}
    # A room gets its hours when all its nexts have theirs: so rooms on a circle never get any.
    ready = [room for room in nexts_of if unknown[room] == 0]
    while ready:
        room = ready.pop()
        hours_in_room = 0 if room in wanted else longest_stay(house, room)
        if hours_in_room is not None:
            hours[room] = hours_in_room + max([hours[other] for other in nexts_of[room]], default=0)
            for ahead in ahead_of[room]:
                unknown[ahead] -= 1
                if unknown[ahead] == 0:
                    ready.append(ahead)
    return hours


def rooms_ahead(nexts_of):
    """For each room the rooms of which it is one of the nexts."""
    ahead_of = {room: [] for room in nexts_of}
    for room, others in nexts_of.items():
        for other in others:
            ahead_of[other].append(room)
    return ahead_of


def longest_stay(house, room):
    """For how many hours at most a run is in the room, None if for ever."""
    stays = []
    for (_, marks), (place, trend) in zip(house.things(), room):
        if trend != 0 and 0 < place < 2 * len(marks):
            # A number that moves is another whole one each hour.
            stays.append(marks[place // 2] - marks[place // 2 - 1])
    return min(stays, default=None)
