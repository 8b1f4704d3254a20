"""Promises 8 and 9: the rooms that a run goes through, the first one that breaks a tie, and runs that are refused."""

import random
import unittest

from samples import THINGS, crowded_houses, first_not_kept, place_of, rooms_of_run, sign, some_houses
from trendhouse.errors import BadHouse, BadRoom, BadRun, BadText, TrendError
from trendhouse.houses import House
from trendhouse.moves import nexts, why_not
from trendhouse.rooms import rooms
from trendhouse.runs import kept, passed

ONE = [("a", (0, 10))]
TWO = [("a", (0, 10)), ("b", (0,))]


def random_run(chosen, things, many):
    """A run near the marks, often on them, now and then far beyond."""
    rows = []
    for _ in range(many):
        row = []
        for at, (_, marks) in enumerate(things):
            far = 10 ** chosen.choice((1, 1, 1, 1, 3, 30))
            number = chosen.choice([chosen.choice(marks), chosen.randint(marks[0] - 3, marks[-1] + 3),
                                    chosen.randint(-far, far), rows[-1][at] if rows else 0])
            row.append(number)
        rows.append(tuple(row))
    return rows


class PassedByOneThing(unittest.TestCase):
    def told(self, numbers, states, things=ONE):
        run = [(number,) for number in numbers]
        self.assertEqual(passed(House(things, []), run), [(state,) for state in states], numbers)

    def test_stays(self):
        self.told([5, 5], [(2, 0)])
        self.told([5, 5, 5, 5], [(2, 0)])
        self.told([-10 ** 40, -10 ** 40], [(0, 0)])
        self.told([11, 11, 11], [(4, 0)])

    def test_stays_at_a_mark(self):
        self.told([0, 0], [(1, 0)])
        self.told([10, 10, 10], [(3, 0)])

    def test_goes_on_between_marks(self):
        self.told([1, 2], [(2, 1)])
        self.told([1, 3, 4, 9], [(2, 1)])
        self.told([9, 8, 1], [(2, -1)])
        self.told([0, 1], [(2, 1)])
        self.told([9, 10], [(2, 1)])
        self.told([0, 10], [(2, 1)])
        self.told([10, 0], [(2, -1)])
        self.told([0, -1], [(0, -1)])
        self.told([-1, 0], [(0, 1)])
        self.told([10, 11], [(4, 1)])
        self.told([11, 10], [(4, -1)])

    def test_crosses_one_mark_within_an_hour(self):
        self.told([-1, 1], [(0, 1), (2, 1)])
        self.told([1, -1], [(2, -1), (0, -1)])
        self.told([9, 99], [(2, 1), (4, 1)])
        self.told([0, 11], [(2, 1), (4, 1)])
        self.told([10, -1], [(2, -1), (0, -1)])

    def test_crosses_several_marks_within_an_hour(self):
        self.told([-1, 11], [(0, 1), (2, 1), (4, 1)])
        self.told([11, -1], [(4, -1), (2, -1), (0, -1)])
        marks = [("a", (-2, 0, 2))]
        self.told([-3, 3], [(0, 1), (2, 1), (4, 1), (6, 1)], marks)
        self.told([3, -3], [(6, -1), (4, -1), (2, -1), (0, -1)], marks)
        self.told([-2, 2], [(2, 1), (4, 1)], marks)

    def test_crosses_at_an_hour(self):
        self.told([-1, 0, 1], [(0, 1), (2, 1)])
        self.told([11, 10, 9], [(4, -1), (2, -1)])
        self.told([-5, 0, 10, 20], [(0, 1), (2, 1), (4, 1)])

    def test_far_beyond_the_marks(self):
        self.told([-10 ** 50, 10 ** 50], [(0, 1), (2, 1), (4, 1)])
        self.told([10 ** 50, -10 ** 50, -10 ** 60], [(4, -1), (2, -1), (0, -1)])
        self.told([10 ** 50, 10 ** 50 + 1, 10 ** 50], [(4, 1), (4, -1)])
        self.told([10 ** 50, 10], [(4, -1)])

    def test_the_marks_at_the_bounds(self):
        self.told([-100, -99, -98], [(0, 1), (2, 1)], [("a", (-99, 99))])
        self.told([98, 99, 99, 100], [(2, 1), (3, 0), (4, 1)], [("a", (-99, 99))])
        self.told([-100, 100], [(0, 1), (2, 1), (4, 1)], [("a", (-99, 99))])

    def test_turns_between_marks(self):
        self.told([1, 5, 1], [(2, 1), (2, -1)])
        self.told([5, 1, 5, 5, 1], [(2, -1), (2, 1), (2, 0), (2, -1)])
        self.told([11, 12, 11], [(4, 1), (4, -1)])

    def test_turns_at_a_mark(self):
        self.told([1, 0, 1], [(2, -1), (2, 1)])
        self.told([-1, 0, -1], [(0, 1), (0, -1)])
        self.told([9, 10, 9, 10], [(2, 1), (2, -1), (2, 1)])
        self.told([0, 10, 0], [(2, 1), (2, -1)])

    def test_stands_at_a_mark_for_some_hours(self):
        self.told([1, 0, 0, 1], [(2, -1), (1, 0), (2, 1)])
        self.told([-1, 0, 0, 0, 1], [(0, 1), (1, 0), (2, 1)])
        self.told([0, 0, -1], [(1, 0), (0, -1)])
        self.told([5, 5, 10, 10], [(2, 0), (2, 1), (3, 0)])


class PassedByTwoThings(unittest.TestCase):
    def told(self, run, told, things=TWO):
        self.assertEqual(passed(House(things, []), run), told, run)

    def test_goes_along_a_mark_for_some_hours(self):
        self.told([(0, 1), (0, 2), (0, 4), (0, 4)], [((1, 0), (2, 1)), ((1, 0), (2, 0))])
        self.told([(0, -1), (0, 1), (0, 0)], [((1, 0), (0, 1)), ((1, 0), (2, 1)), ((1, 0), (2, -1))])

    def test_cross_at_the_same_time(self):
        self.told([(-1, -2), (1, 2)], [((0, 1), (0, 1)), ((2, 1), (2, 1))])
        self.told([(-1, 3), (2, -6)], [((0, 1), (2, -1)), ((2, 1), (0, -1))])
        self.told([(-1, -1), (0, 0), (1, 1)], [((0, 1), (0, 1)), ((2, 1), (2, 1))])
        self.told([(-10 ** 30, 10 ** 40), (10 ** 30, -10 ** 40)],
                  [((0, 1), (2, -1)), ((2, 1), (0, -1)), ((4, 1), (0, -1))])

    def test_cross_shortly_after_one_another(self):
        # At 33/100 and 1/3 of the hour, either first.
        self.told([(-33, -1), (67, 2)], [((0, 1), (0, 1)), ((2, 1), (0, 1)), ((2, 1), (2, 1)), ((4, 1), (2, 1))])
        self.told([(-1, -33), (2, 67)], [((0, 1), (0, 1)), ((0, 1), (2, 1)), ((2, 1), (2, 1))])
        # At 1/n and at 1/(n + 1).
        for n in (2, 3, 97, 10 ** 20):
            self.told([(-1, -1), (n - 1, n)], [((0, 1), (0, 1)), ((0, 1), (2, 1)), ((2, 1), (2, 1))]
                      + ([((4, 1), (2, 1))] if n - 1 > 10 else []))

    def test_cross_at_other_times_the_other_way(self):
        self.told([(11, -1), (-1, 5)], [((4, -1), (0, 1)), ((2, -1), (0, 1)), ((2, -1), (2, 1)), ((0, -1), (2, 1))])

    def test_one_stands_where_the_other_one_crosses(self):
        self.told([(10, 5), (10, -5)], [((3, 0), (2, -1)), ((3, 0), (0, -1))])
        self.told([(5, 5), (5, -5), (5, -5)], [((2, 0), (2, -1)), ((2, 0), (0, -1)), ((2, 0), (0, 0))])

    def test_three_things(self):
        things = [("a", (0,)), ("b", (0,)), ("c", (0,))]
        self.told([(-1, -1, 1), (1, 2, -3)],
                  [((0, 1), (0, 1), (2, -1)), ((0, 1), (0, 1), (0, -1)), ((0, 1), (2, 1), (0, -1)),
                   ((2, 1), (2, 1), (0, -1))], things)


class AnyRun(unittest.TestCase):
    def runs(self, seed, many):
        chosen = random.Random(seed)
        for at in range(many):
            things = THINGS[at % len(THINGS)]
            yield things, random_run(chosen, things, chosen.choice((2, 2, 3, 5, 9)))

    def test_by_the_middles_of_the_times_between_crossings(self):
        for things, run in self.runs(1, 1500):
            told = passed(House(things, []), run)
            self.assertIs(type(told), list)
            self.assertEqual(told, rooms_of_run(things, run), (things, run))

    def test_each_room_is_one_of_nexts_of_the_one_ahead(self):
        for things, run in self.runs(2, 400):
            house = House(things, [])
            told = passed(house, run)
            for room, other in zip(told, told[1:]):
                self.assertIsNone(why_not(house, room, other))
                self.assertIn(other, nexts(house, room))

    def test_begins_and_ends_where_the_numbers_are(self):
        for things, run in self.runs(3, 300):
            told = passed(House(things, []), run)
            for room, row, at in ((told[0], run[0], 1), (told[-1], run[-1], -1)):
                for (_, marks), (place, trend), number in zip(things, room, row):
                    there = place_of(marks, number)
                    self.assertEqual(place, there + at * trend if there % 2 else there)

    def test_all_hours_one_by_one(self):
        for things, run in self.runs(4, 300):
            house = House(things, [])
            joined = []
            for row, later in zip(run, run[1:]):
                told = passed(house, [row, later])
                self.assertEqual([sign(end - start) for start, end in zip(row, later)],
                                 [trend for _, trend in told[0]])
                joined += told[1:] if joined[-1:] == told[:1] else told
            self.assertEqual(passed(house, run), joined)

    def test_ties_change_nothing_of_passed(self):
        run = [(5, 1), (-5, 20), (0, 0), (0, 0)]
        told = passed(House(TWO, []), run)
        self.assertEqual(passed(House(TWO, [("with", 0, 1), ("over", 0, 1)]), run), told)

    def test_a_run_that_keeps_all_ties_goes_through_the_told_rooms(self):
        chosen = random.Random(5)
        seen = 0
        for things, ties in list(some_houses())[::2] + list(crowded_houses(12, 100)):
            house = House(things, ties)
            for _ in range(12):
                run = random_run(chosen, things, 3)
                if kept(house, run) is None:
                    seen += 1
                    told = passed(house, run)
                    self.assertLessEqual(set(told), set(rooms(house)))
                    for room, other in zip(told, told[1:]):
                        self.assertIn(other, nexts(house, room))
        self.assertGreater(seen, 100)


class Kept(unittest.TestCase):
    def test_none(self):
        self.assertIsNone(kept(House(TWO, []), [(5, 1), (-5, 20)]))
        self.assertIsNone(kept(House(TWO, [("against", 0, 1), ("with", 1, 0)]), [(5, 1), (5, 1), (5, 1)]))
        self.assertIsNone(kept(House(TWO, [("against", 0, 1)]), [(5, 1), (20, -9), (-20, 9), (-20, 9)]))
        self.assertIsNone(kept(House(ONE, [("rate", 0, 0, 0)]), [(-1,), (-5,)]))

    def test_the_room_and_its_first_tie(self):
        house = House(TWO, [("under", 0, 1), ("over", 1, 0), ("with", 0, 1)])
        self.assertEqual(kept(house, [(5, 1), (6, 1)]), (0, 2))
        self.assertEqual(kept(house, [(5, 1), (6, 2), (6, 3)]), (1, 2))
        self.assertEqual(kept(house, [(5, 1), (6, 2), (9, -9)]), (1, 2))
        self.assertEqual(kept(house, [(5, 5), (-1, -1)]), (1, 1))
        self.assertEqual(kept(house, [(5, 5), (15, 15)]), (1, 0))
        self.assertEqual(kept(house, [(11, -5), (12, -5)]), (0, 0))
        self.assertEqual(kept(house, [(1, 1), (10, 2), (10, 2), (0, 0), (0, 0), (0, -2)]), (4, 1))

    def test_a_tie_that_is_broken_for_a_moment_only(self):
        # At hour 1 b is at its mark, but a stands for no while.
        house = House(TWO, [("rate", 0, 1, 0)])
        self.assertIsNone(kept(house, [(5, -1), (4, 0), (5, 1)]))
        self.assertIsNone(kept(house, [(5, 1), (6, 0), (7, 1)]))
        self.assertEqual(kept(house, [(5, 1), (6, 0), (7, 0), (8, 1)]), (1, 0))

    def test_that_number_is_the_one_in_passed(self):
        house = House(ONE, [("under", 0, 0)])
        run = [(-5,), (-4,), (-3,), (-3,), (-3,), (20,), (21,)]
        self.assertEqual(passed(house, run), [((0, 1),), ((0, 0),), ((0, 1),), ((2, 1),), ((4, 1),)])
        self.assertEqual(kept(house, run), (3, 0))

    def test_of_any_run(self):
        chosen = random.Random(6)
        told = set()
        for things, ties in list(some_houses()) + list(crowded_houses(13, 60)):
            house = House(things, ties)
            for _ in range(3):
                run = random_run(chosen, things, chosen.choice((2, 3, 6)))
                broken = [(number, first_not_kept(things, ties, room))
                          for number, room in enumerate(rooms_of_run(things, run))]
                wanted = next((pair for pair in broken if pair[1] is not None), None)
                self.assertEqual(kept(house, run), wanted, (things, ties, run))
                told.add(wanted)
        self.assertGreater(len(told), 15)


class NoRuns(unittest.TestCase):
    def refused(self, house, rows, row):
        for ask in (passed, kept):
            with self.assertRaises(BadRun) as caught:
                ask(house, rows)
            self.assertEqual(caught.exception.row, row, rows)
            self.assertIsInstance(caught.exception, TrendError)
            self.assertIsInstance(caught.exception, ValueError)
            self.assertNotIsInstance(caught.exception, (BadHouse, BadRoom, BadText))

    def test_too_few_rows_whatever_they_are(self):
        for things in THINGS:
            house = House(things, [])
            self.refused(house, [], 0)
            for many in range(5):
                self.refused(house, [(0,) * many], 1)

    def test_the_first_bad_row(self):
        for things in THINGS:
            house = House(things, [("over", 0, 0)])
            good = (0,) * len(things)
            for many in range(6):
                bad = (0,) * many
                if bad != good:
                    self.refused(house, [bad, good], 0)
                    self.refused(house, [good, bad], 1)
                    self.refused(house, [bad, bad], 0)
                    self.refused(house, [good, bad, good, ()], 1)
                    self.refused(house, [good, good, good, bad], 3)
            self.assertIsInstance(passed(house, [good, good]), list)

    def test_ahead_of_a_tie_that_is_not_kept(self):
        house = House(ONE, [("over", 0, 1)])
        self.refused(house, [(0,), (1,), (2,), (3, 3)], 3)


if __name__ == "__main__":
    unittest.main()
