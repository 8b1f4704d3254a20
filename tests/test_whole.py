"""Promises 1 and 11, and what holds of the whole program: each house by itself, and read houses like others."""

import random
import unittest

from samples import all_ties, crowded_houses, every_room, first_not_kept, some_houses
from trendhouse.coming import comes_by, reach
from trendhouse.errors import TrendError
from trendhouse.houses import House
from trendhouse.moves import nexts, why_not
from trendhouse.notes import read, written
from trendhouse.rooms import broken, rooms
from trendhouse.runs import kept, passed, passing

TWO_THINGS = [("a", (0, 9)), ("b", (0, 4))]
FALL = [("rate", 0, 1, 0), ("against", 0, 1), ("over", 1, 0), ("over", 0, 0)]
ROOM = ((2, 1), (2, -1))
OTHER = ((3, 0), (1, 0))
GOALS = [((place, 0), (1, 0)) for place in (2, 3, 4)]
RUN = [(1, 3), (4, 1), (5, 0), (5, 0), (-4, 0)]


def questions(house):
    """All that can be asked of a house of two things, each as a function and what is handed to it."""
    return [(house.things,), (house.ties,), (rooms, house), (broken, house, ROOM), (broken, house, OTHER),
            (nexts, house, ROOM), (nexts, house, OTHER), (why_not, house, ROOM, OTHER), (why_not, house, OTHER, ROOM),
            (reach, house, ROOM), (comes_by, house, ROOM, list(GOALS)), (comes_by, house, ROOM, []),
            (passed, house, list(RUN)), (kept, house, list(RUN)), (passing, house, ROOM, OTHER),
            (passing, house, ROOM, ROOM), (written, house)]


def refusals(house):
    """What each of them refuses."""
    bad = ((9, 0), (0, 0))
    return [(broken, house, bad), (nexts, house, bad), (why_not, house, ROOM, bad), (why_not, house, bad, ROOM),
            (reach, house, bad), (comes_by, house, ROOM, [bad]), (comes_by, house, bad, []), (passed, house, [(0, 0)]),
            (passed, house, [(0, 0), (1,)]), (kept, house, []), (kept, house, [(0, 0), (0, 0), ()]),
            (passing, house, bad, ROOM), (passing, house, ROOM, bad), (read, written(house) + "\n"),
            (read, written(house) + "\nunder a 9"), (House, house.things() * 2, house.ties()),
            (House, house.things(), [("under", 0, 0)] * 7)]


def answers(house):
    return [asked[0](*asked[1:]) for asked in questions(house)]


def spoiled(told):
    """A list is turned about and then emptied, as whoever got it may do."""
    if isinstance(told, list):
        told.reverse()
        del told[::2]
        told.append(None)


class NothingIsChangedOrKept(unittest.TestCase):
    def test_what_is_told_may_be_changed(self):
        house = House(TWO_THINGS, FALL)
        ahead = answers(house)
        self.assertEqual(sum(isinstance(told, list) and told != [] for told in ahead), 7)
        for asked, wanted in zip(questions(house), ahead):
            told = asked[0](*asked[1:])
            self.assertEqual(told, wanted)
            spoiled(told)
            self.assertEqual(asked[0](*asked[1:]), wanted)
            self.assertEqual(answers(house), ahead)

    def test_what_is_handed_in_is_not_changed(self):
        things, ties, goals, run = list(TWO_THINGS), list(FALL), list(GOALS), list(RUN)
        house = House(things, ties)
        comes_by(house, ROOM, goals)
        passed(house, run)
        kept(house, run)
        self.assertEqual((things, ties, goals, run), (TWO_THINGS, FALL, GOALS, RUN))

    def test_what_is_handed_in_may_change_later(self):
        things, ties, goals, run = list(TWO_THINGS), list(FALL), list(GOALS), list(RUN)
        house = House(things, ties)
        ahead = answers(house)
        told = comes_by(house, ROOM, goals), passed(house, run), kept(house, run)
        for handed_in in (things, ties, goals, run):
            spoiled(handed_in)
        self.assertEqual(answers(house), ahead)
        self.assertEqual((comes_by(house, ROOM, list(GOALS)), passed(house, list(RUN)), kept(house, list(RUN))), told)

    def test_other_goals_and_other_runs_are_asked_anew(self):
        house = House(TWO_THINGS, FALL)
        goals, run = list(GOALS), list(RUN)
        self.assertEqual(comes_by(house, ROOM, goals), 8)
        goals.append(ROOM)
        self.assertEqual(comes_by(house, ROOM, goals), 0)
        goals.clear()
        self.assertIsNone(comes_by(house, ROOM, goals))
        self.assertEqual(kept(house, run), (2, 0))
        run.pop()
        self.assertIsNone(kept(house, run))
        run.append((6, 1))
        self.assertEqual(kept(house, run), (2, 1))


class TwoHouses(unittest.TestCase):
    def test_in_turns(self):
        things, ties = list(TWO_THINGS), list(FALL)
        one = House(things, ties)
        ahead = answers(one)
        things[0] = ("a", (-5, 0))
        ties[1] = ("with", 0, 1)
        other = House(things, ties)
        ahead_of_other = answers(other)
        self.assertNotEqual(ahead, ahead_of_other)
        for asked, asked_of_other, wanted, wanted_of_other in zip(questions(one), questions(other), ahead,
                                                                  ahead_of_other):
            for _ in range(2):
                told, told_of_other = asked[0](*asked[1:]), asked_of_other[0](*asked_of_other[1:])
                self.assertEqual((told, told_of_other), (wanted, wanted_of_other))
                spoiled(told)
                spoiled(told_of_other)
        self.assertEqual((answers(one), answers(other)), (ahead, ahead_of_other))

    def test_alike_houses_tell_alike(self):
        one, other = House(TWO_THINGS, FALL), House(list(TWO_THINGS), list(FALL))
        self.assertEqual(answers(one), answers(other))

    def test_after_each_refusal(self):
        house, other = House(TWO_THINGS, FALL), House(TWO_THINGS, [])
        ahead, ahead_of_other = answers(house), answers(other)
        for asked in refusals(house) + refusals(other):
            with self.assertRaises(TrendError):
                asked[0](*asked[1:])
            self.assertEqual(answers(house), ahead)
        self.assertEqual(answers(other), ahead_of_other)


class ReadHouses(unittest.TestCase):
    def test_tell_what_the_written_house_tells(self):
        for ties in ([], FALL, [("with", 0, 1)], [("sum", 0, 1, 1), ("product", 1, 0, 0), ("under", 0, 1)]):
            house = House(TWO_THINGS, ties)
            again = read(written(house))
            self.assertEqual(answers(again), answers(house))
            for asked, asked_again in zip(refusals(house), refusals(again)):
                with self.assertRaises(TrendError) as caught:
                    asked[0](*asked[1:])
                with self.assertRaises(type(caught.exception)) as caught_again:
                    asked_again[0](*asked_again[1:])
                self.assertEqual(vars(caught_again.exception), vars(caught.exception))

    def test_of_any_kind(self):
        for things, ties in list(some_houses())[::9] + list(crowded_houses(18, 30)):
            house = House(things, ties)
            again = read(written(house))
            self.assertEqual(rooms(again), rooms(house))
            for room in every_room(things)[::101]:
                self.assertEqual(broken(again, room), broken(house, room))
                self.assertEqual(nexts(again, room), nexts(house, room))

    def test_handed_out_parts_are_its_own(self):
        house = read("thing a 0\nthing b 0\nwith a b")
        spoiled(house.things())
        spoiled(house.ties())
        self.assertEqual((house.things(), house.ties()), ([("a", (0,)), ("b", (0,))], [("with", 0, 1)]))


class MoreTies(unittest.TestCase):
    def houses(self, seed):
        """Things and ties, and a tie more."""
        chosen = random.Random(seed)
        for things, ties in list(some_houses())[::7] + list(crowded_houses(19, 60)):
            if len(ties) < 6:
                yield chosen, things, ties, chosen.choice(all_ties(things))

    def test_no_room_more(self):
        for chosen, things, ties, tie in self.houses(1):
            at = chosen.randrange(len(ties) + 1)
            house, tied = House(things, ties), House(things, ties[:at] + [tie] + ties[at:])
            self.assertLessEqual(set(rooms(tied)), set(rooms(house)))
            self.assertEqual(rooms(tied),
                             [room for room in rooms(house) if first_not_kept(things, [tie], room) is None])
            for room in every_room(things)[::151]:
                self.assertLessEqual(set(nexts(tied, room)), set(nexts(house, room)))
                self.assertLessEqual(set(reach(tied, room)), set(reach(house, room)))

    def test_a_tie_twice_changes_nothing(self):
        for _, things, ties, tie in self.houses(2):
            house, tied = House(things, (ties + [tie])[-3:]), House(things, (ties + [tie])[-3:] + [tie])
            self.assertEqual(rooms(tied), rooms(house))

    def test_the_order_of_the_ties_changes_nothing(self):
        for chosen, things, ties, tie in self.houses(3):
            ties = ties + [tie]
            others = chosen.sample(ties, len(ties))
            house, other = House(things, ties), House(things, others)
            self.assertEqual(rooms(other), rooms(house))
            for room in every_room(things)[::211]:
                self.assertEqual(nexts(other, room), nexts(house, room))
                may_come = reach(house, room)
                self.assertEqual(reach(other, room), may_come)
                goals = may_come[1::2]
                self.assertEqual(comes_by(other, room, goals), comes_by(house, room, goals))


if __name__ == "__main__":
    unittest.main()
