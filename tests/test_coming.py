"""Promises 7 and 10: all that may come of a room, and by how many hours one of some rooms comes in every case."""

import random
import unittest
from itertools import product

from samples import (THINGS, Refusing, crowded_houses, every_room, first_not_kept, rooms_behind, rooms_of_hour,
                     rooms_to_try, some_houses)
from trendhouse.coming import comes_by, reach
from trendhouse.houses import House

# What is above 0 rises, what is below 0 falls: nothing turns.
CLIMB = [("rate", 0, 0, 0)]


def rooms_that_may_come(things, ties, room):
    found = {room}
    fresh = [room]
    while fresh:
        fresh = sorted({other for at in fresh for other in rooms_behind(things, ties, at)} - found)
        found.update(fresh)
    return sorted(found)


def stay(things, room):
    """For how many hours a run may be in a room, None if for ever."""
    lengths = [marks[place // 2] - marks[place // 2 - 1] for (_, marks), (place, trend) in zip(things, room)
               if trend and place not in (0, 2 * len(marks))]
    return min(lengths) if lengths else None


def hours_of_each(things, behind, goals):
    """The hours of each room, found by asking all of them again until nothing is new."""
    hours = {room: 0 for room in goals}
    known = -1
    while known != len(hours):
        known = len(hours)
        for room, others in behind.items():
            told = [hours.get(other) for other in others]
            if room not in hours and stay(things, room) is not None and None not in told:
                hours[room] = stay(things, room) + max([0] + told)
    return hours


class Reach(unittest.TestCase):
    def test_the_room_alone(self):
        self.assertEqual(reach(House([("a", (0,))], [("under", 0, 0)]), ((2, 1),)), [((2, 1),)])
        self.assertEqual(reach(House([("a", (0,))], CLIMB), ((2, 1),)), [((2, 1),)])
        self.assertEqual(reach(House([("a", (0, 9))], CLIMB + [("under", 0, 1)]), ((2, 1),)), [((2, 1),)])
        self.assertEqual(reach(House([("a", (0, 2))], [("under", 0, 0), ("over", 0, 1)]), ((1, 0),)), [((1, 0),)])

    def test_a_way_up(self):
        house = House([("a", (0, 7, 99))], CLIMB)
        self.assertEqual(reach(house, ((1, 0),)), [((0, -1),), ((1, 0),), ((2, 1),), ((4, 1),), ((6, 1),)])
        self.assertEqual(reach(house, ((4, 1),)), [((4, 1),), ((6, 1),)])

    def test_a_first_room_that_does_not_keep_the_ties(self):
        house = House([("a", (0, 7))], CLIMB)
        self.assertEqual(reach(house, ((2, 0),)), [((2, 0),), ((2, 1),), ((4, 1),)])
        self.assertEqual(reach(house, ((4, -1),)), [((4, -1),), ((4, 1),)])
        self.assertEqual(reach(house, ((3, 0),)), [((3, 0),), ((4, 1),)])

    def test_all_rooms_without_ties(self):
        for things in THINGS:
            every = every_room(things)
            self.assertEqual(reach(House(things, []), every[0]), every)

    def test_as_nexts_again_and_again_each_once_rising(self):
        for things, ties in list(some_houses())[::13] + list(crowded_houses(8, 60)):
            house = House(things, ties)
            for room in rooms_to_try(things, ties, 2):
                told = reach(house, room)
                self.assertIs(type(told), list)
                self.assertEqual(told, rooms_that_may_come(things, ties, room), (things, ties, room))


class ComesBy(unittest.TestCase):
    def test_one_of_the_rooms(self):
        house = House([("a", (0, 7))], [])
        self.assertEqual(comes_by(house, ((2, 1),), [((2, 1),)]), 0)
        self.assertEqual(comes_by(house, ((0, 0),), [((2, 1),), ((0, 0),), ((0, 0),)]), 0)
        self.assertEqual(comes_by(House([("a", (0, 7))], CLIMB), ((2, -1),), [((2, -1),)]), 0)

    def test_one_thing_that_climbs(self):
        house = House([("a", (-99, 0, 99))], [("rate", 0, 0, 1)])
        self.assertEqual(comes_by(house, ((4, 1),), [((6, 1),)]), 99)
        house = House([("a", (0, 7, 9))], CLIMB)
        self.assertEqual(comes_by(house, ((2, 1),), [((6, 1),)]), 9)
        self.assertEqual(comes_by(house, ((2, 1),), [((4, 1),)]), 7)
        self.assertEqual(comes_by(house, ((4, 1),), [((6, 1),), ((6, 1),)]), 2)
        self.assertIsNone(comes_by(house, ((4, 1),), [((2, 1),)]))

    def test_one_thing_that_sinks(self):
        house = House([("a", (3, 8, 99))], [("rate", 0, 0, 2)])
        self.assertEqual(comes_by(house, ((4, -1),), [((0, -1),)]), 91 + 5)
        self.assertEqual(comes_by(house, ((4, -1),), [((2, -1),)]), 91)

    def test_without_nexts(self):
        house = House([("a", (0, 7))], CLIMB + [("under", 0, 1)])
        self.assertEqual(comes_by(house, ((2, 1),), []), 7)
        self.assertEqual(comes_by(house, ((2, 1),), [((0, -1),)]), 7)
        house = House([("a", (0, 7)), ("b", (0, 4))], [("under", 0, 0), ("over", 0, 1)])
        self.assertEqual(comes_by(house, ((2, 1), (2, -1)), []), 4)
        self.assertEqual(comes_by(house, ((2, 0), (2, -1)), []), 4)
        self.assertEqual(comes_by(house, ((2, -1), (4, 1)), []), 7)
        self.assertIsNone(comes_by(house, ((2, 0), (3, 0)), []))

    def test_for_ever(self):
        goals = [((0, -1), (2, 1))]
        for ties in ([], [("under", 0, 0), ("over", 0, 1)]):
            house = House([("a", (0, 7)), ("b", (0, 4))], ties)
            for room in (((1, 0), (3, 0)), ((0, 0), (2, 0)), ((0, -1), (4, 1)), ((0, 1), (4, -1)), ((3, 0), (0, 1))):
                self.assertIsNone(comes_by(house, room, goals))
                self.assertIsNone(comes_by(house, room, []))
        house = House([("a", (0, 7))], CLIMB)
        self.assertIsNone(comes_by(house, ((4, 1),), [((2, 1),)]))
        self.assertIsNone(comes_by(house, ((1, 0),), [((0, -1),), ((2, 1),)]))

    def test_a_room_for_ever_on_the_way(self):
        house = House([("a", (0, 7, 9))], CLIMB)
        self.assertIsNone(comes_by(house, ((2, 1),), []))
        self.assertIsNone(comes_by(house, ((4, 1),), [((4, 0),)]))

    def test_round_and_round(self):
        things = [("a", (0, 7))]
        house = House(things, [("over", 0, 0), ("under", 0, 1)])
        ends = [((1, 0),), ((3, 0),), ((2, 0),)]
        self.assertIsNone(comes_by(house, ((2, 1),), ends))
        self.assertEqual(comes_by(house, ((2, 1),), ends + [((2, -1),)]), 7)
        self.assertIsNone(comes_by(house, ((2, -1),), []))

    def test_two_things_the_least_of_them(self):
        # As long as b is above 0, a rises and b falls; then both stand.
        things = [("a", (0, 9)), ("b", (0, 4))]
        ties = [("rate", 0, 1, 0), ("against", 0, 1), ("over", 1, 0), ("over", 0, 0)]
        house = House(things, ties)
        goals = [((place, 0), (1, 0)) for place in (2, 3, 4)]
        self.assertEqual(comes_by(house, ((2, 1), (2, -1)), goals), 8)
        self.assertEqual(comes_by(house, ((4, 1), (2, -1)), goals), 4)
        self.assertIsNone(comes_by(house, ((2, 1), (4, -1)), goals[:2]))
        self.assertEqual(comes_by(house, ((2, 1), (4, -1)), goals + [((4, 1), (4, -1))]), 17)
        self.assertIsNone(comes_by(house, ((2, 1), (2, -1)), goals[1:]))

    def test_a_first_room_that_does_not_keep_the_ties(self):
        house = House([("a", (0, 7))], CLIMB)
        self.assertEqual(comes_by(house, ((2, -1),), [((0, -1),), ((1, 0),), ((2, 1),)]), 7)
        self.assertEqual(comes_by(house, ((2, -1),), [((0, -1),), ((1, 0),), ((4, 1),)]), 14)
        self.assertIsNone(comes_by(house, ((2, 0),), [((2, 1),)]))

    def test_as_asked_of_all_rooms_again_and_again(self):
        chosen = random.Random(10)
        found = set()
        for things, ties in crowded_houses(11, 200):
            house = House(things, ties)
            for room in rooms_to_try(things, ties, 3):
                may_come = rooms_that_may_come(things, ties, room)
                if len(may_come) < 100:
                    behind = {at: rooms_behind(things, ties, at) for at in may_come}
                    for goals in goals_to_try(chosen, things, room, may_come):
                        told = comes_by(house, room, goals)
                        self.assertEqual(told, hours_of_each(things, behind, goals).get(room),
                                         (things, ties, room, goals))
                        found.add(told)
        self.assertGreater(len(found), 20)


def goals_to_try(chosen, things, room, may_come):
    """No room, all that may come, and some of them: often all in which a run may stay for ever."""
    others = [other for other in may_come if other != room]
    for_ever = [other for other in others if stay(things, other) is None]
    yield []
    yield others
    yield for_ever * 2
    for share in (0.2, 0.5, 0.8, 0.9):
        yield for_ever + [other for other in others if chosen.random() < share]
        yield [other for other in others if chosen.random() < share]


class RunsComeBy(unittest.TestCase):
    """Each run that keeps all ties and has more hours than that goes through a goal."""

    def longest_run_around(self, things, ties, room, goals, most):
        """The most hours of a run from the room on that keeps all ties and goes through no goal."""
        ranges = [range(marks[0] - 3, marks[-1] + 4) for _, marks in things]
        every = list(product(*ranges))
        steps = {}
        for row, later in product(every, repeat=2):
            hour = rooms_of_hour(things, row, later)
            if all(first_not_kept(things, ties, at) is None and at not in goals for at in hour):
                steps.setdefault(row, []).append((hour[0], later))
        ends = {later for row in steps for first, later in steps[row] if first == room}
        hours = 0
        while ends and hours <= most:
            hours += 1
            ends = {later for row in ends for _, later in steps.get(row, [])}
        return hours

    def test_no_run_goes_around_for_longer(self):
        climb = [("a", (0, 3, 5))]
        fall = [("a", (0, 3)), ("b", (0, 2))]
        falling = [("rate", 0, 1, 0), ("against", 0, 1), ("over", 1, 0), ("over", 0, 0)]
        cases = [(climb, CLIMB, ((2, 1),), [((6, 1),)], 5), (climb, CLIMB, ((2, 1),), [((4, 1),)], 3),
                 (climb, CLIMB + [("under", 0, 1)], ((2, 1),), [], 3),
                 (fall, falling, ((2, 1), (2, -1)), [((place, 0), (1, 0)) for place in (2, 3, 4)], 4),
                 (fall, falling, ((4, 1), (2, -1)), [((4, 0), (1, 0))], 2),
                 (fall, [("with", 0, 1), ("under", 1, 0)], ((2, -1), (0, -1)),
                  [((2, 0), (0, 0)), ((1, 0), (0, 0)), ((0, -1), (0, -1)), ((2, 1), (0, 1))], 3)]
        for things, ties, room, goals, most in cases:
            self.assertEqual(comes_by(House(things, ties), room, goals), most)
            self.assertLessEqual(self.longest_run_around(things, ties, room, goals, most), most)


class NoRooms(Refusing):
    def test_the_room_and_each_of_the_goals(self):
        house = House([("a", (0, 7)), ("b", (0,))], [("with", 0, 1)])
        good = ((2, 1), (0, 1))
        for bad in ((), ((2, 1),), good + ((0, 0),), ((5, 0), (0, 0)), ((2, 1), (3, 0)), ((1, 1), (0, 0)),
                    ((2, 2), (0, 0)), ((2, 0), (-1, 0)), ((2, 1), (2, -2))):
            self.refused(reach, house, bad)
            self.refused(comes_by, house, bad, [])
            self.refused(comes_by, house, bad, [bad])
            self.refused(comes_by, house, bad, [good])
            self.refused(comes_by, house, good, [bad])
            self.refused(comes_by, house, good, [good, bad])
            self.refused(comes_by, house, good, [bad, good])
            self.refused(comes_by, house, ((0, 0), (0, 0)), [good, good, bad, good])


if __name__ == "__main__":
    unittest.main()
