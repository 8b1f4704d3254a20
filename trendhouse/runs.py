"""Runs: the numbers of the things at each hour, and the rooms that they go through."""

from trendhouse.errors import BadRun
from trendhouse.moves import why_not
from trendhouse.rooms import first_broken, is_mark, mark_place, sign

FEWEST_ROWS = 2


def passed(house, rows):
    """The rooms that the run goes through, in turn."""
    check_run(house, rows)
    all_marks = [marks for _, marks in house.things()]
    found = []
    for row, later in zip(rows, rows[1:]):
        for room in rooms_of_hour(all_marks, row, later):
            if found[-1:] != [room]:
                found.append(room)
    return found


def kept(house, rows):
    """The first room of passed that doesn't keep a tie and the first such tie, None if the run keeps all."""
    ties = house.ties()
    for number, room in enumerate(passed(house, rows)):
        tie = first_broken(ties, room)
        if tie is not None:
            return (number, tie)
    return None


def passing(house, room, other):
    """A run of two hours, the first one in the room, the second one in the other room; None if it can't be."""
    if why_not(house, room, other) is not None:
        return None
    columns = []
    for (_, marks), state, later in zip(house.things(), room, other):
        columns.append(numbers_through(marks, state, later))
    return list(zip(*columns))


def check_run(house, rows):
    """Refuse rows that are too few, or the first one without a number for each thing."""
    if len(rows) < FEWEST_ROWS:
        raise BadRun(len(rows))
    many = len(house.things())
    for number, row in enumerate(rows):
        if len(row) != many:
            raise BadRun(number)


def rooms_of_hour(all_marks, row, later):
    """The rooms of one hour, in turn, by the numbers at its start and its end."""
    parts = parts_of_hour(row, later)
    moments = [0]
    for marks, start, end in zip(all_marks, row, later):
        crossed = [mark for mark in marks if min(start, end) < mark < max(start, end)]
        moments.extend([(mark - start) * parts // (end - start) for mark in crossed])
    return [room_behind(all_marks, row, later, parts, moment) for moment in sorted(set(moments))]


def parts_of_hour(row, later):
    """Into how many parts to cut an hour, so that each mark is come to at the end of a part."""
    parts = 1
    for start, end in zip(row, later):
        if start != end:
            parts = parts * abs(end - start)
    return parts


def room_behind(all_marks, row, later, parts, moment):
    """The room just behind a moment of an hour, at which so many of its parts are over."""
    room = ()
    for marks, start, end in zip(all_marks, row, later):
        # Numbers and marks are multiplied alike, so that the number at this moment is a whole one.
        number = start * parts + (end - start) * moment
        larger = [mark * parts for mark in marks]
        room = room + (state_behind(larger, number, sign(end - start)),)
    return room


def state_behind(marks, number, trend):
    """The place and trend of a thing that goes on from this number with this trend."""
    place = place_of(marks, number)
    if is_mark(place):
        return (place + trend, trend)
    return (place, trend)


def place_of(marks, number):
    """The place of a number among marks."""
    below = len([mark for mark in marks if mark < number])
    return mark_place(below) if number in marks else 2 * below


def numbers_through(marks, state, later):
    """A thing's numbers at the three hours of a run, in the one state first and in the later one then."""
    place, trend = state
    later_place, later_trend = later
    if is_mark(place):
        number = marks[place // 2]
    elif place == later_place:
        number = number_between(marks, place)
    else:
        # The only way out of a place between marks leads to the mark that comes next.
        number = marks[(place + trend) // 2]
    return (number - trend, number, number + later_trend)


def number_between(marks, place):
    """A number in a place between marks, so near a mark that one step either way doesn't lead past one."""
    if place == 0:
        return marks[0] - 1
    return marks[place // 2 - 1] + 1
