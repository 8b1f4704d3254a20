"""Promise 6: what may come next behind a room, and why another room can't."""

import unittest
from itertools import product

from samples import (THINGS, Refusing, crowded_houses, every_pair, every_room, first_not_kept, is_pair, rooms_behind,
                     rooms_of_hour, rooms_to_try, some_houses, ways_on)
from trendhouse.houses import House
from trendhouse.moves import nexts, why_not

# What one thing with two marks may go on with, from each place and trend; itself left out.
ONE_THING = {
    (0, -1): [(0, 0), (0, 1)],
    (0, 0): [(0, -1), (0, 1)],
    (0, 1): [(0, -1), (0, 0), (1, 0), (2, 1)],
    (1, 0): [(0, -1), (2, 1)],
    (2, -1): [(0, -1), (1, 0), (2, 0), (2, 1)],
    (2, 0): [(2, -1), (2, 1)],
    (2, 1): [(2, -1), (2, 0), (3, 0), (4, 1)],
    (3, 0): [(2, -1), (4, 1)],
    (4, -1): [(2, -1), (3, 0), (4, 0), (4, 1)],
    (4, 0): [(4, -1), (4, 1)],
    (4, 1): [(4, -1), (4, 0)],
}


def houses_to_try():
    yield from some_houses()
    yield from crowded_houses(6, 120)


class Nexts(unittest.TestCase):
    def test_one_thing(self):
        for marks in ((0, 2), (-99, 99)):
            house = House([("a", marks)], [])
            for state, others in ONE_THING.items():
                self.assertEqual(nexts(house, (state,)), [(other,) for other in others])

    def test_one_thing_with_one_mark_and_with_three(self):
        house = House([("a", (7,))], [])
        self.assertEqual(nexts(house, ((0, 1),)), [((0, -1),), ((0, 0),), ((1, 0),), ((2, 1),)])
        self.assertEqual(nexts(house, ((0, -1),)), [((0, 0),), ((0, 1),)])
        self.assertEqual(nexts(house, ((2, 1),)), [((2, -1),), ((2, 0),)])
        self.assertEqual(nexts(house, ((2, -1),)), [((0, -1),), ((1, 0),), ((2, 0),), ((2, 1),)])
        house = House([("a", (0, 2, 4))], [])
        self.assertEqual(nexts(house, ((4, 1),)), [((4, -1),), ((4, 0),), ((5, 0),), ((6, 1),)])
        self.assertEqual(nexts(house, ((5, 0),)), [((4, -1),), ((6, 1),)])
        self.assertEqual(nexts(house, ((6, 1),)), [((6, -1),), ((6, 0),)])

    def test_what_numbers_may_do_in_two_hours(self):
        for marks in ((0,), (-1, 1), (0, 2, 5)):
            things = [("a", marks)]
            house = House(things, [])
            numbers = range(marks[0] - 4, marks[-1] + 5)
            seen = {}
            for first, second, third in product(numbers, repeat=3):
                begun = rooms_of_hour(things, (first,), (second,))
                then = rooms_of_hour(things, (second,), (third,))
                if len(begun) == len(then) == 1:
                    seen.setdefault(begun[0], set()).add(then[0])
            self.assertEqual(sorted(seen), every_room(things))
            for room, others in seen.items():
                self.assertEqual(nexts(house, room), sorted(others - {room}), (marks, room))

    def test_one_is_at_its_mark_and_one_is_not_yet(self):
        house = House([("a", (0,)), ("b", (0,))], [])
        told = nexts(house, ((0, 1), (2, -1)))
        self.assertEqual(len(told), 5 * 5 - 1)
        for other in (((1, 0), (2, -1)), ((0, 1), (1, 0)), ((1, 0), (1, 0)), ((2, 1), (2, 0)), ((2, 1), (0, -1)),
                      ((0, -1), (0, -1)), ((0, 0), (2, 1))):
            self.assertIn(other, told)
        for other in (((0, 1), (2, -1)), ((2, 0), (2, -1)), ((2, -1), (1, 0)), ((1, 0), (0, 0)), ((0, 0), (0, 1))):
            self.assertNotIn(other, told)

    def test_both_stand_at_marks(self):
        house = House([("a", (0,)), ("b", (0,))], [("with", 0, 1)])
        self.assertEqual(nexts(house, ((1, 0), (1, 0))), [((0, -1), (0, -1)), ((2, 1), (2, 1))])
        house = House([("a", (0,)), ("b", (0,))], [("against", 0, 1)])
        self.assertEqual(nexts(house, ((1, 0), (1, 0))), [((0, -1), (2, 1)), ((2, 1), (0, -1))])

    def test_ties_hold_of_the_other_room_alone(self):
        house = House([("a", (0, 7))], [("rate", 0, 0, 0)])
        self.assertEqual(nexts(house, ((2, 1),)), [((4, 1),)])
        self.assertEqual(nexts(house, ((2, -1),)), [((0, -1),), ((1, 0),), ((2, 1),)])
        self.assertEqual(nexts(house, ((2, 0),)), [((2, 1),)])
        self.assertEqual(nexts(House([("a", (0,))], [("under", 0, 0)]), ((2, 1),)), [])
        self.assertEqual(nexts(House([("a", (0,))], [("under", 0, 0)]), ((2, -1),)), [((0, -1),), ((1, 0),)])

    def test_just_those_each_once_rising_and_never_the_room_itself(self):
        for things, ties in houses_to_try():
            house = House(things, ties)
            for room in rooms_to_try(things, ties, 8):
                told = nexts(house, room)
                self.assertIs(type(told), list)
                self.assertEqual(told, rooms_behind(things, ties, room), (things, ties, room))
                self.assertNotIn(room, told)


class WhyNot(unittest.TestCase):
    def test_each_reason(self):
        house = House([("a", (0,)), ("b", (0, 4))], [("under", 1, 1), ("with", 0, 1), ("over", 1, 0)])
        room = ((0, 1), (2, 1))
        self.assertIsNone(why_not(house, room, ((1, 0), (3, 0))))
        self.assertIsNone(why_not(house, room, ((2, 1), (2, 1))))
        self.assertEqual(why_not(house, room, room), ("same", 0))
        self.assertEqual(why_not(house, room, ((2, 0), (2, 0))), ("thing", 0))
        self.assertEqual(why_not(house, room, ((2, 1), (1, 0))), ("thing", 1))
        self.assertEqual(why_not(house, room, ((0, 1), (4, 1))), ("tie", 0))
        self.assertEqual(why_not(house, room, ((2, 1), (3, 0))), ("tie", 1))
        self.assertEqual(why_not(house, ((0, -1), (2, -1)), ((0, -1), (0, -1))), ("tie", 2))

    def test_the_order_of_the_reasons(self):
        house = House([("a", (0,)), ("b", (0,))], [("with", 0, 1), ("over", 0, 0), ("over", 1, 0)])
        self.assertEqual(why_not(house, ((0, 1), (0, 0)), ((0, 1), (0, 0))), ("same", 0))
        self.assertEqual(why_not(house, ((0, 0), (0, 0)), ((2, 0), (2, 1))), ("thing", 0))
        self.assertEqual(why_not(house, ((0, 1), (0, 0)), ((1, 0), (2, 1))), ("thing", 1))
        self.assertEqual(why_not(house, ((0, 1), (0, 0)), ((0, 1), (0, -1))), ("tie", 0))
        self.assertEqual(why_not(house, ((0, 1), (0, 0)), ((0, 1), (0, 1))), ("tie", 1))
        self.assertEqual(why_not(house, ((0, 1), (0, 0)), ((2, 1), (0, 1))), ("tie", 2))

    def test_the_room_itself_whether_it_keeps_the_ties_or_not(self):
        for things, ties in houses_to_try():
            house = House(things, ties)
            for room in rooms_to_try(things, ties, 8):
                self.assertEqual(why_not(house, room, room), ("same", 0))

    def reason(self, things, ties, room, other):
        if room == other:
            return ("same", 0)
        for number, (_, marks) in enumerate(things):
            if other[number] not in ways_on(marks, room[number]):
                return ("thing", number)
        tie = first_not_kept(things, ties, other)
        return None if tie is None else ("tie", tie)

    def test_every_pair_of_rooms_of_small_houses(self):
        for things, ties in ((THINGS[0], []), (THINGS[2], [("rate", 0, 0, 1)]), (THINGS[3], []),
                             ([("a", (0,)), ("b", (0, 2))], [("under", 0, 0), ("with", 0, 1), ("rate", 1, 0, 0)])):
            house = House(things, ties)
            for room, other in product(every_room(things), repeat=2):
                self.assertEqual(why_not(house, room, other), self.reason(things, ties, room, other), (room, other))

    def test_some_pairs_of_rooms_of_each_house(self):
        for things, ties in houses_to_try():
            house = House(things, ties)
            for room in rooms_to_try(things, ties, 3):
                others = list(rooms_to_try(things, ties, 20))
                others += [other for other in product(*[ways_on(marks, state) for (_, marks), state
                                                        in zip(things, room)])]
                for other in others:
                    self.assertEqual(why_not(house, room, other), self.reason(things, ties, room, other),
                                     (things, ties, room, other))

    def test_none_of_just_the_nexts(self):
        for things, ties in crowded_houses(7, 40):
            house = House(things, ties)
            every = every_room(things)
            for room in rooms_to_try(things, ties, 2):
                self.assertEqual([other for other in every if why_not(house, room, other) is None],
                                 nexts(house, room))


class NoRooms(Refusing):
    def test_each_place_and_trend_in_either_place(self):
        for ties in ([], [("rate", 0, 0, 0)]):
            house = House([("a", (0, 9))], ties)
            good = ((2, 1),)
            for pair in every_pair((0, 9)):
                if is_pair((0, 9), pair):
                    nexts(house, (pair,))
                    why_not(house, (pair,), good)
                    why_not(house, good, (pair,))
                else:
                    self.refused(nexts, house, (pair,))
                    self.refused(why_not, house, (pair,), good)
                    self.refused(why_not, house, good, (pair,))
                    self.refused(why_not, house, (pair,), (pair,))

    def test_a_bad_one_behind_a_thing_that_can_not_go_on(self):
        house = House([("a", (0,)), ("b", (0,))], [("with", 0, 1)])
        self.refused(why_not, house, ((0, 0), (0, 0)), ((2, 0), (1, 1)))
        self.refused(why_not, house, ((0, 0), (3, 0)), ((2, 0), (1, 0)))

    def test_too_few_and_too_many(self):
        house = House([("a", (0,)), ("b", (0,))], [])
        good = ((0, 0), (0, 0))
        for many in (0, 1, 3, 4):
            bad = ((0, 0),) * many
            self.refused(nexts, house, bad)
            self.refused(why_not, house, bad, good)
            self.refused(why_not, house, good, bad)
            self.refused(why_not, house, bad, bad)


if __name__ == "__main__":
    unittest.main()
