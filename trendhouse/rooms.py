"""Rooms: where each thing is among its marks, and its trend."""

from trendhouse.errors import BadRoom

TRENDS = (-1, 0, 1)


def rooms(house):
    """All rooms that keep all ties of the house, rising."""
    ties = house.ties()
    return [room for room in all_rooms(house) if first_broken(ties, room) is None]


def broken(house, room):
    """The number of the first tie that the room doesn't keep, None if it keeps all."""
    check_room(house, room)
    return first_broken(house.ties(), room)


def check_room(house, room):
    """Refuse what is no room of the house."""
    things = house.things()
    if len(room) != len(things):
        raise BadRoom(f"no room: {len(room)} of {len(things)} things")
    for (name, marks), state in zip(things, room):
        if state not in states(marks):
            raise BadRoom(f"no room: {name} has no such place and trend")


def all_rooms(house):
    """All rooms of the house, rising, whether they keep its ties or not."""
    return one_of_each([states(marks) for _, marks in house.things()])


def one_of_each(lists):
    """Each room with one state of each list, rising if the lists rise."""
    found = [()]
    for choices in lists:
        found = [room + (state,) for room in found for state in choices]
    return found


def states(marks):
    """Each (place, trend) of a thing with these marks, rising."""
    found = []
    for place in range(2 * len(marks) + 1):
        if is_mark(place):
            found.append((place, 0))
        else:
            found.extend([(place, trend) for trend in TRENDS])
    return found


def is_mark(place):
    """Whether a thing in this place is at a mark."""
    return place % 2 == 1


def mark_place(number):
    """The place of the mark with this number."""
    return 2 * number + 1


def first_broken(ties, room):
    """The number of the first of these ties that the room doesn't keep, None if it keeps all."""
    for number, tie in enumerate(ties):
        if not keeps(room, tie):
            return number
    return None


def keeps(room, tie):
    """Whether the room keeps the tie."""
    word = tie[0]
    place, trend = room[tie[1]]
    if word == "under":
        return place <= mark_place(tie[2])
    if word == "over":
        return place >= mark_place(tie[2])
    second_place, second = room[tie[2]]
    if word == "with":
        return trend == second
    if word == "against":
        return trend == -second
    if word == "rate":
        return trend == sign(second_place - mark_place(tie[3]))
    third = room[tie[3]][1]
    if word == "product":
        return trend == second * third
    return may_be_sum(trend, second, third)


def may_be_sum(trend, second, third):
    """Whether a sum may have this trend when its parts have those."""
    # Of one part that rises and one that falls either may be the faster one.
    if second * third == -1:
        return True
    return trend == sign(second + third)


def sign(number):
    """1, 0 or -1: on which side of 0 the number is."""
    if number > 0:
        return 1
    if number < 0:
        return -1
    return 0
