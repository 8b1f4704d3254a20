"""Promises 1, 4 and 5: what is a room, which ties it keeps, and all rooms that keep all."""

import unittest
from itertools import product

from samples import THINGS, Refusing, all_ties, every_pair, every_room, first_not_kept, is_pair, keeps, some_houses
from trendhouse.errors import BadRoom
from trendhouse.houses import House
from trendhouse.rooms import broken, rooms

# Three things that may all do all: 0 is a, 1 is b, 2 is c; 0 and 1 are places below and at the mark.
ABC = [("a", (0,)), ("b", (0,)), ("c", (0,))]
TRENDS = (-1, 0, 1)


class AllRooms(unittest.TestCase):
    def test_one_thing_without_ties(self):
        self.assertEqual(rooms(House([("a", (7,))], [])), [
            ((0, -1),), ((0, 0),), ((0, 1),), ((1, 0),), ((2, -1),), ((2, 0),), ((2, 1),)])

    def test_two_marks(self):
        self.assertEqual(rooms(House([("a", (-99, 99))], [("over", 0, 0), ("under", 0, 1)])), [
            ((1, 0),), ((2, -1),), ((2, 0),), ((2, 1),), ((3, 0),)])

    def test_a_rate_of_a_thing_with_itself(self):
        self.assertEqual(rooms(House([("a", (0,))], [("rate", 0, 0, 0)])), [((0, -1),), ((1, 0),), ((2, 1),)])

    def test_two_things(self):
        ties = [("rate", 0, 1, 0), ("under", 0, 0), ("over", 1, 0), ("against", 0, 1)]
        self.assertEqual(rooms(House(ABC[:2], ties)), [
            ((0, 0), (1, 0)), ((0, 1), (2, -1)), ((1, 0), (1, 0))])

    def test_ties_that_let_no_room_be(self):
        house = House([("a", (0, 2))], [("under", 0, 0), ("over", 0, 1)])
        self.assertEqual(rooms(house), [])

    def test_how_many_without_ties(self):
        self.assertEqual([len(rooms(House([("a", tuple(range(0, 2 * k, 2)))], []))) for k in (1, 2, 3)], [7, 11, 15])
        self.assertEqual(len(rooms(House([(name, (-2, 0, 2)) for name in "abc"], []))), 15 ** 3)

    def test_just_those_that_keep_all_ties_each_once_rising(self):
        for things, ties in some_houses():
            told = rooms(House(things, ties))
            kept = [room for room in every_room(things) if first_not_kept(things, ties, room) is None]
            self.assertIs(type(told), list)
            self.assertEqual(told, kept, (things, ties))


class Broken(unittest.TestCase):
    def test_the_first_tie_that_is_not_kept(self):
        for things, ties in some_houses():
            house = House(things, ties)
            for room in every_room(things)[::7]:
                self.assertEqual(broken(house, room), first_not_kept(things, ties, room), (things, ties, room))

    def test_every_tie_and_every_room_of_small_houses(self):
        for things in (ABC[:1], [("a", (-3, 3))], ABC[:2], [("a", (0, 2)), ("b", (5,))]):
            for tie in all_ties(things):
                house = House(things, [tie])
                for room in every_room(things):
                    told = None if keeps(things, room, tie) else 0
                    self.assertEqual(broken(house, room), told, (things, tie, room))

    def test_none_without_ties(self):
        for things in THINGS:
            for room in every_room(things)[::11]:
                self.assertIsNone(broken(House(things, []), room))

    def told(self, tie, *trends):
        room = tuple((0, trend) for trend in trends)
        return broken(House(ABC[:len(trends)], [tie]), room) is None

    def test_with_and_against(self):
        for a, b in product(TRENDS, repeat=2):
            self.assertEqual(self.told(("with", 0, 1), a, b), a == b)
            self.assertEqual(self.told(("against", 1, 0), a, b), (a, b) in [(1, -1), (-1, 1), (0, 0)])

    def test_sum_for_all_nine_pairs(self):
        may_be = {(1, 1): [1], (1, 0): [1], (0, 1): [1], (0, 0): [0], (0, -1): [-1], (-1, 0): [-1],
                  (-1, -1): [-1], (1, -1): [-1, 0, 1], (-1, 1): [-1, 0, 1]}
        for a, b, c in product(TRENDS, repeat=3):
            self.assertEqual(self.told(("sum", 0, 1, 2), a, b, c), a in may_be[b, c], (a, b, c))
            self.assertEqual(self.told(("sum", 2, 0, 1), b, c, a), a in may_be[b, c], (a, b, c))

    def test_product_for_all_nine_pairs(self):
        for a, b, c in product(TRENDS, repeat=3):
            self.assertEqual(self.told(("product", 0, 1, 2), a, b, c), a == b * c, (a, b, c))

    def test_sum_and_product_of_one_thing_twice(self):
        for a, b in product(TRENDS, repeat=2):
            self.assertEqual(self.told(("sum", 0, 1, 1), a, b), a == b)
            self.assertEqual(self.told(("product", 0, 1, 1), a, b), a == abs(b))

    def test_rate(self):
        things = [("a", (0,)), ("b", (0, 2, 4))]
        for k, at in ((0, 1), (1, 3), (2, 5)):
            house = House(things, [("rate", 0, 1, k)])
            for trend, place in product(TRENDS, range(7)):
                kept = trend == (1 if place > at else -1 if place < at else 0)
                self.assertEqual(broken(house, ((2, trend), (place, 0))), None if kept else 0)

    def test_under_and_over(self):
        things = [("a", (0,)), ("b", (0, 2, 4))]
        for k, at in ((0, 1), (1, 3), (2, 5)):
            for place in range(7):
                room = ((0, 1), (place, 0))
                self.assertEqual(broken(House(things, [("under", 1, k)]), room), None if place <= at else 0)
                self.assertEqual(broken(House(things, [("over", 1, k)]), room), None if place >= at else 0)

    def test_later_ties(self):
        ties = [("with", 0, 1), ("under", 0, 0), ("with", 0, 1), ("over", 2, 0), ("product", 0, 1, 2), ("with", 1, 2)]
        house = House(ABC, ties)
        self.assertEqual(broken(house, ((0, 1), (0, 0), (0, 1))), 0)
        self.assertEqual(broken(house, ((2, 1), (0, 1), (0, 1))), 1)
        self.assertEqual(broken(house, ((0, 1), (0, 1), (0, 1))), 3)
        self.assertEqual(broken(house, ((0, 1), (0, 1), (2, 0))), 4)
        self.assertEqual(broken(house, ((0, 0), (0, 0), (2, -1))), 5)
        self.assertIsNone(broken(house, ((0, 1), (0, 1), (2, 1))))


class NoRooms(Refusing):
    def test_each_place_and_trend_is_let_be_or_refused(self):
        for things in ([("a", (0,))], [("a", (-99, 99))], [("a", (0, 2, 4))]):
            for pair in every_pair(things[0][1]):
                for ties in ([], [("rate", 0, 0, 0)]):
                    if is_pair(things[0][1], pair):
                        broken(House(things, ties), (pair,))
                    else:
                        self.refused(broken, House(things, ties), (pair,))

    def test_a_bad_one_anywhere(self):
        good = ((0, 1), (2, 0), (4, -1))
        house = House([("a", (0,)), ("b", (0, 2)), ("c", (0, 2, 4))], [("with", 0, 1), ("sum", 0, 1, 2)])
        self.assertEqual(broken(house, good), 0)
        for at, bad in ((0, (3, 0)), (1, (5, 0)), (2, (7, 0)), (0, (1, 1)), (1, (3, -1)), (2, (5, 1)),
                        (0, (-1, 0)), (1, (-2, 1)), (2, (0, 2)), (1, (0, -2)), (2, (10 ** 30, 0))):
            room = list(good)
            room[at] = bad
            self.refused(broken, house, tuple(room))

    def test_too_few_and_too_many(self):
        for many in (1, 2, 3):
            for ties in ([], [("rate", 0, many - 1, 0)]):
                house = House(ABC[:many], ties)
                for others in (0, 1, 2, 3, 4, 5):
                    if others != many:
                        self.refused(broken, house, ((0, 0),) * others)

    def test_a_room_of_another_house(self):
        house = House(ABC[:2], [])
        self.refused(broken, house, ((0, 1), (3, 0)))
        self.assertIsNone(broken(House([("a", (0,)), ("b", (0, 2))], []), ((0, 1), (3, 0))))


class NothingIsKept(unittest.TestCase):
    def test_asked_twice_the_first_answer_emptied(self):
        for things, ties in ((ABC, []), (ABC, [("sum", 0, 1, 2)]), (THINGS[4], [("rate", 0, 1, 0)])):
            house = House(things, ties)
            first = rooms(house)
            was = list(first)
            self.assertTrue(was)
            first.clear()
            self.assertEqual(rooms(house), was)

    def test_what_is_handed_in_may_change_later(self):
        things, ties = list(ABC), [("sum", 0, 1, 2), ("over", 0, 0)]
        house = House(things, ties)
        room = ((0, 1), (0, 1), (2, 0))
        self.assertEqual(broken(house, room), 1)
        was = rooms(house)
        self.assertEqual((things, ties), (ABC, [("sum", 0, 1, 2), ("over", 0, 0)]))
        self.assertEqual(room, ((0, 1), (0, 1), (2, 0)))
        things.clear()
        ties.reverse()
        house.things().pop()
        house.ties().clear()
        self.assertEqual(broken(house, room), 1)
        self.assertEqual(rooms(house), was)

    def test_the_house_stays_as_it_is(self):
        house = House(ABC, [("with", 0, 1)])
        rooms(house)
        broken(house, ((0, 0), (0, 1), (1, 0)))
        with self.assertRaises(BadRoom):
            broken(house, ())
        self.assertEqual((house.things(), house.ties()), (ABC, [("with", 0, 1)]))


if __name__ == "__main__":
    unittest.main()
