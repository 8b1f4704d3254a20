"""The refusals: what they are, and what they have."""

import unittest

from trendhouse.errors import BadHouse, BadRoom, BadRun, BadText, TrendError

KINDS = (BadHouse, BadRoom, BadRun, BadText)


class Kinds(unittest.TestCase):
    def test_any_refusal_is_a_value_error(self):
        self.assertEqual(TrendError.__bases__, (ValueError,))

    def test_each_is_a_trend_error_and_none_of_the_others(self):
        for kind in KINDS:
            self.assertEqual(kind.__bases__, (TrendError,))

    def test_what_is_listed_is_set(self):
        error = BadHouse("thing", 2)
        self.assertEqual((error.word, error.number), ("thing", 2))
        self.assertEqual(vars(error), {"word": "thing", "number": 2})
        for kind in (BadRun, BadText):
            self.assertEqual(vars(kind(3)), {"row": 3})

    def test_each_object_has_its_own(self):
        first, second = BadRun(1), BadRun(2)
        self.assertEqual((first.row, second.row), (1, 2))
        first, second = BadHouse("tie", 1), BadHouse("ties", 0)
        self.assertEqual((first.word, first.number, second.word, second.number), ("tie", 1, "ties", 0))


if __name__ == "__main__":
    unittest.main()
