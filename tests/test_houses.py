"""Promises 1 to 3: what is a house, what is none and how it is refused, and that nothing is kept."""

import unittest
from itertools import product

from samples import THINGS, WORDS, all_ties
from trendhouse.errors import BadHouse, BadRoom, BadRun, BadText, TrendError
from trendhouse.houses import House

THREE = [("a", (0,)), ("b", (0, 10)), ("c", (-5, 0, 5))]
TIES = [("with", 0, 1), ("against", 1, 2), ("sum", 0, 1, 2), ("product", 2, 0, 1), ("rate", 0, 2, 2), ("under", 1, 1)]


class Refusals(unittest.TestCase):
    def refused(self, things, ties, word, number):
        was = (list(things), list(ties))
        with self.assertRaises(BadHouse) as caught:
            House(things, ties)
        error = caught.exception
        self.assertEqual((error.word, error.number), (word, number), (things, ties))
        self.assertIsInstance(error, TrendError)
        self.assertIsInstance(error, ValueError)
        self.assertNotIsInstance(error, (BadRoom, BadRun, BadText))
        self.assertEqual((things, ties), was)


class Houses(unittest.TestCase):
    def test_told_as_handed_in(self):
        for things in THINGS:
            house = House(things, [])
            self.assertEqual(house.things(), things)
            self.assertEqual(house.ties(), [])
            self.assertIs(type(house.things()), list)
            self.assertIs(type(house.ties()), list)

    def test_six_ties_told_as_handed_in(self):
        for ties in (TIES, [("over", 0, 0)] * 6, TIES[::-1]):
            house = House(THREE, ties)
            self.assertEqual(house.things(), THREE)
            self.assertEqual(house.ties(), ties)

    def test_names(self):
        for name in ("a", "z", "az", "abcdefgh", "stuvwxyz", "ijklmnop", "qr"):
            self.assertEqual(House([(name, (0,))], []).things(), [(name, (0,))])

    def test_one_name_the_beginning_of_another(self):
        for names in (("a", "ab", "abc"), ("abc", "ab", "a")):
            things = [(name, (1,)) for name in names]
            self.assertEqual(House(things, []).things(), things)

    def test_marks(self):
        for marks in ((-99,), (99,), (0,), (-99, -97), (97, 99), (-99, 99), (1, 3), (0, 2, 4), (-99, 0, 99)):
            self.assertEqual(House([("a", marks)], []).things(), [("a", marks)])

    def test_things_may_have_the_same_marks(self):
        things = [("a", (0, 2)), ("b", (0, 2)), ("c", (0, 2))]
        self.assertEqual(House(things, []).things(), things)

    def test_one_thing_twice_in_a_sum_or_a_product_and_a_rate_with_itself(self):
        ties = [("sum", 0, 1, 1), ("product", 1, 0, 0), ("rate", 0, 0, 0), ("rate", 2, 2, 2)]
        self.assertEqual(House(THREE, ties).ties(), ties)
        ties = [("sum", 1, 0, 0), ("product", 0, 1, 1), ("rate", 1, 1, 1)]
        self.assertEqual(House(THREE[:2], ties).ties(), ties)
        self.assertEqual(House(THREE[:1], [("rate", 0, 0, 0)]).ties(), [("rate", 0, 0, 0)])

    def test_all_seven_words(self):
        for tie in TIES + [("over", 2, 2)]:
            self.assertEqual(House(THREE, [tie]).ties(), [tie])
        self.assertEqual({tie[0] for tie in TIES} | {"over"}, set(WORDS))


class NothingIsKept(unittest.TestCase):
    def test_lists_that_were_handed_in_may_change(self):
        things, ties = list(THREE), list(TIES)
        house = House(things, ties)
        self.assertEqual((things, ties), (THREE, TIES))
        things[0] = ("other", (1,))
        things.pop()
        ties.clear()
        self.assertEqual(house.things(), THREE)
        self.assertEqual(house.ties(), TIES)

    def test_lists_that_were_told_may_change(self):
        house = House(THREE, TIES)
        house.things().clear()
        house.ties().append(("with", 0, 2))
        told = house.ties()
        told[0] = ("over", 0, 0)
        self.assertEqual(house.things(), THREE)
        self.assertEqual(house.ties(), TIES)

    def test_houses_are_apart(self):
        first, second = House(THREE, TIES), House(THREE[:1], [])
        self.assertEqual((first.things(), first.ties()), (THREE, TIES))
        self.assertEqual((second.things(), second.ties()), (THREE[:1], []))


class BadThings(Refusals):
    def test_how_many(self):
        self.refused([], [], "things", 0)
        self.refused([(name, (0,)) for name in "abcd"], [], "things", 0)
        self.refused([(name, (0,)) for name in "abcdefgh"], [], "things", 0)

    def each_refused(self, bad):
        self.refused([bad], [], "thing", 0)
        self.refused([bad, ("a", (0,))], [], "thing", 0)
        self.refused([("a", (0,)), bad], [], "thing", 1)
        self.refused([("a", (0,)), ("b", (0,)), bad], [], "thing", 2)

    def test_names(self):
        for name in ("", "abcdefghi", "A", "aB", "Ab", " ", "a ", " a", "a b", "a1", "1", "a_b", "a-b", "a\n",
                     "\u00e4", "a\u00df", "\u0430", "a\u0661", "`", "{", "a.b"):
            self.each_refused((name, (0,)))

    def test_marks(self):
        for marks in ((), (0, 2, 4, 6), (-100,), (100,), (-100, 0), (0, 100), (-150, -100, -99), (98, 100),
                      (0, 0), (0, 1), (2, 0), (0, 2, 2), (0, 2, 3), (0, 1, 3), (0, 3, 1), (3, 1, 5), (-1, -2),
                      (10 ** 30,), (-10 ** 30,)):
            self.each_refused(("thing", marks))

    def test_a_name_that_stands_ahead(self):
        self.refused([("a", (0,)), ("a", (0,))], [], "thing", 1)
        self.refused([("a", (0,)), ("a", (5, 7))], [], "thing", 1)
        self.refused([("a", (0,)), ("b", (0,)), ("a", (0,))], [], "thing", 2)
        self.refused([("a", (0,)), ("b", (0,)), ("b", (0,))], [], "thing", 2)
        self.refused([("a", (0,)), ("a", (0,)), ("a", (0,))], [], "thing", 1)


class BadTies(Refusals):
    def test_how_many(self):
        self.refused(THREE, [("with", 0, 1)] * 7, "ties", 0)
        self.refused(THREE, TIES + [("over", 0, 0)], "ties", 0)
        self.refused(THREE[:1], [("over", 0, 0)] * 20, "ties", 0)

    def test_each_tie_is_let_be_or_refused(self):
        # Every word with up to four numbers, from one below the first to one beyond any last.
        rows = [row for many in range(5) for row in product(range(-1, 4), repeat=many)]
        for things in (THREE, THREE[1:], THREE[2:], THREE[:1], [("a", (0, 2)), ("b", (0,))]):
            may_be = set(all_ties(things))
            for word in WORDS:
                for row in rows:
                    tie = (word, *row)
                    if tie in may_be:
                        self.assertEqual(House(things, [tie]).ties(), [tie])
                    else:
                        self.refused(things, [tie], "tie", 0)

    def test_an_empty_tie(self):
        self.refused(THREE, [()], "tie", 0)

    def test_another_word(self):
        for word in ("", "other", "With", "with ", "wit", "withs", "nexts", "thing"):
            for rest in ((), (0,), (0, 1), (0, 1, 2), (0, 1, 0)):
                self.refused(THREE, [(word, *rest)], "tie", 0)

    def test_a_text_in_place_of_a_number(self):
        for tie in (("with", "a", 1), ("with", 0, "b"), ("sum", 0, 1, "c"), ("rate", 0, 1, "with"), ("under", 0, "")):
            self.refused(THREE, [tie], "tie", 0)

    def test_a_text_too_many(self):
        for tie in (("with", 0, 1, "with"), ("with", "with", 0, 1), ("over", 0, 0, "")):
            self.refused(THREE, [tie], "tie", 0)

    def test_no_text_ahead(self):
        for tie in ((0,), (0, 1), (0, "with", 1)):
            self.refused(THREE, [tie], "tie", 0)

    def test_far_numbers(self):
        for tie in (("with", 0, 99), ("with", -99, 0), ("sum", 0, 1, 10 ** 30), ("under", 0, -10 ** 30)):
            self.refused(THREE, [tie], "tie", 0)

    def test_the_first_bad_one_is_told(self):
        for ahead in range(6):
            for bad in ((), ("with", 0, 0), ("with", 0), ("rate", 0, 1, 2), ("under", 0, 1), ("other", 0, 1)):
                for behind in ([], [("with", 2, 2)], [("over", 0, 0)]):
                    ties = (TIES[:ahead] + [bad] + behind)[:6]
                    self.refused(THREE, ties, "tie", ahead)


class TwoFaults(Refusals):
    def test_how_many_things_is_told_first(self):
        four = [("A", ()), ("b", (0,)), ("c", (0,)), ("d", (0,))]
        self.refused(four, [], "things", 0)
        self.refused(four, [("over", 1, 0)] * 7, "things", 0)
        self.refused([(name, (0,)) for name in "abcd"], [("other",)], "things", 0)
        self.refused([], [("over", 0, 0)] * 7, "things", 0)
        self.refused([], [("over", 0, 0)], "things", 0)

    def test_a_thing_is_told_ahead_of_ties(self):
        things = [("a", (0,)), ("a", (0,))]
        self.refused(things, [("over", 0, 0)] * 7, "thing", 1)
        self.refused(things, [()], "thing", 1)
        self.refused([("a", (0,)), ("b", ())], [("under", 1, 0)], "thing", 1)

    def test_the_first_bad_thing_is_told(self):
        self.refused([("a", ()), ("a", (0,))], [], "thing", 0)
        self.refused([("a", (0,)), ("B", (0,)), ("a", (0,))], [], "thing", 1)
        self.refused([("a", (0,)), ("a", (0,)), ("c", (5, 5))], [], "thing", 1)

    def test_how_many_ties_is_told_ahead_of_a_bad_one(self):
        self.refused(THREE, [()] * 7, "ties", 0)
        self.refused(THREE, [("with", 0, 0)] + TIES, "ties", 0)


if __name__ == "__main__":
    unittest.main()
