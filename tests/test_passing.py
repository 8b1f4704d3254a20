"""Promise 9: a run from one room to another one that may come next behind it."""

import unittest
from itertools import product

from samples import THINGS, Refusing, crowded_houses, every_room, first_not_kept, rooms_of_run, some_houses
from trendhouse.houses import House
from trendhouse.moves import nexts, why_not
from trendhouse.runs import kept, passed, passing


class Passing(unittest.TestCase):
    def check(self, things, house, room, other):
        run = passing(house, room, other)
        self.assertIs(type(run), list)
        self.assertEqual([(type(row), len(row)) for row in run], [(tuple, len(things))] * 3)
        self.assertEqual({type(number) for row in run for number in row}, {int})
        self.assertEqual(rooms_of_run(things, run), [room, other], (things, room, other, run))
        self.assertEqual(rooms_of_run(things, run[:2]), [room], (things, room, other, run))
        self.assertEqual(rooms_of_run(things, run[1:]), [other], (things, room, other, run))
        self.assertEqual(passed(house, run), [room, other])

    def test_all_pairs_of_rooms_of_one_thing(self):
        for marks in ((0,), (-99,), (99,), (0, 2), (-99, -97), (97, 99), (-99, 99), (-2, 0, 2), (-99, 0, 99),
                      (-99, -97, -95), (95, 97, 99), (0, 3, 50)):
            things = [("a", marks)]
            house = House(things, [])
            for room in every_room(things):
                for other in nexts(house, room):
                    self.check(things, house, room, other)

    def test_all_pairs_of_rooms_of_two_things(self):
        things = [("a", (0,)), ("b", (97, 99))]
        house = House(things, [])
        for room in every_room(things):
            for other in nexts(house, room):
                self.check(things, house, room, other)

    def test_some_pairs_of_rooms_of_each_house(self):
        for things, ties in list(some_houses())[::3] + list(crowded_houses(14, 60)):
            house = House(things, ties)
            for room in every_room(things)[::97]:
                for other in nexts(house, room)[::5]:
                    self.check(things, house, room, other)

    def test_between_rooms_that_keep_the_ties_the_run_keeps_them(self):
        for things, ties in crowded_houses(15, 60):
            house = House(things, ties)
            for room in every_room(things)[::5]:
                for other in nexts(house, room)[:3]:
                    tie = first_not_kept(things, ties, room)
                    self.assertEqual(kept(house, passing(house, room, other)), None if tie is None else (0, tie))

    def test_none_where_it_can_not_come_next(self):
        house = House([("a", (0,)), ("b", (0,))], [("with", 0, 1)])
        room = ((0, 1), (0, 1))
        self.assertIsNone(passing(house, room, room))
        self.assertIsNone(passing(house, room, ((0, 1), (2, 0))))
        self.assertIsNone(passing(house, room, ((0, 1), (2, -1))))
        self.assertIsNone(passing(house, room, ((0, 1), (0, -1))))
        self.assertIsNotNone(passing(house, room, ((0, -1), (0, -1))))

    def test_none_just_where_there_is_a_reason(self):
        things = [("a", (0,)), ("b", (0, 2))]
        for ties in ([], [("under", 0, 0)], [("with", 0, 1), ("rate", 1, 0, 0)]):
            house = House(things, ties)
            for room, other in product(every_room(things), repeat=2):
                self.assertEqual(passing(house, room, other) is None, why_not(house, room, other) is not None)


class NoRooms(Refusing):
    def test_in_either_place(self):
        house = House([("a", (0,)), ("b", (0, 2))], [("with", 0, 1)])
        good = ((0, 1), (2, 1))
        for bad in ((), ((0, 1),), good + ((0, 0),), ((3, 0), (2, 1)), ((0, 1), (5, 0)), ((1, 1), (2, 1)),
                    ((0, 2), (2, 1)), ((0, 1), (-1, 0))):
            for room, other in ((bad, good), (good, bad), (bad, bad)):
                self.refused(passing, house, room, other)

    def test_of_any_house(self):
        for things in THINGS:
            house = House(things, [])
            good = ((0, 0),) * len(things)
            for at, (_, marks) in enumerate(things):
                bad = list(good)
                bad[at] = (2 * len(marks) + 1, 0)
                for room, other in ((tuple(bad), good), (good, tuple(bad))):
                    self.refused(passing, house, room, other)


if __name__ == "__main__":
    unittest.main()
