"""Promise 12: houses as texts, and texts that are refused."""

import random
import re
import unittest

from samples import THINGS, WORDS, all_ties, crowded_houses, some_houses
from trendhouse.errors import BadHouse, BadRoom, BadRun, BadText, TrendError
from trendhouse.houses import House
from trendhouse.notes import read, written

THINGS_OF_ALL = [("a", (-99, 0, 99)), ("ab", (5,)), ("abc", (-2, 1))]
TIES_OF_ALL = [("with", 0, 1), ("against", 2, 0), ("sum", 1, 0, 0), ("product", 0, 2, 1), ("rate", 2, 0, 2),
               ("under", 2, 1)]
ROWS_OF_ALL = ["thing a -99 0 99", "thing ab 5", "thing abc -2 1", "with a ab", "against abc a", "sum ab a a",
               "product a abc ab", "rate abc a 2", "under abc 1"]

NUMBER = "(?:0|-?[1-9][0-9]?)"
THING = re.compile(f"thing ([a-z]{{1,8}})((?: {NUMBER})+)")
TIE = re.compile(f"(with|against)( [a-z]+){{2}}|(sum|product)( [a-z]+){{3}}|rate( [a-z]+){{2}} {NUMBER}"
                 f"|(under|over) [a-z]+ {NUMBER}")


def first_bad_row(text):
    """The number of the first row that isn't so by its words, None if all are."""
    names = []
    tied = False
    for number, row in enumerate(text.split("\n")):
        if found := THING.fullmatch(row):
            if tied:
                return number
            names.append(found[1])
        elif TIE.fullmatch(row) and set(re.findall("[a-z]+", row)[1:]) <= set(names):
            tied = True
        else:
            return number
    return None


def parts_of(text):
    """The things and the ties that a text tells whose rows are all so by their words."""
    rows = [row.split() for row in text.split("\n")]
    things = [(row[1], tuple(map(int, row[2:]))) for row in rows if row[0] == "thing"]
    names = [name for name, _ in things]
    ties = [tuple([row[0]] + [names.index(word) if word.isalpha() else int(word) for word in row[1:]])
            for row in rows if row[0] != "thing"]
    return things, ties


def told(ask, *arguments):
    """What is told, or the refusal, as plain values."""
    try:
        house = ask(*arguments)
    except BadText as error:
        return ("text", error.row)
    except BadHouse as error:
        return ("house", error.word, error.number)
    return (house.things(), house.ties())


class Written(unittest.TestCase):
    def test_all_seven_words(self):
        self.assertEqual(written(House(THINGS_OF_ALL, TIES_OF_ALL)), "\n".join(ROWS_OF_ALL))
        self.assertEqual(written(House(THINGS_OF_ALL, [("over", 0, 2), ("rate", 1, 1, 0)])),
                         "thing a -99 0 99\nthing ab 5\nthing abc -2 1\nover a 2\nrate ab ab 0")

    def test_one_thing(self):
        self.assertEqual(written(House([("level", (0,))], [])), "thing level 0")
        self.assertEqual(written(House([("abcdefgh", (-9, -1, 10))], [])), "thing abcdefgh -9 -1 10")

    def test_names_like_words(self):
        house = House([("thing", (0,)), ("with", (1,)), ("sum", (2,))], [("with", 0, 1), ("sum", 2, 1, 0)])
        text = "thing thing 0\nthing with 1\nthing sum 2\nwith thing with\nsum sum with thing"
        self.assertEqual(written(house), text)
        self.assertEqual((read(text).things(), read(text).ties()), (house.things(), house.ties()))

    def test_each_house_is_read_as_it_is_written(self):
        for things, ties in list(some_houses()) + list(crowded_houses(16, 100)):
            house = House(things, ties)
            text = written(house)
            self.assertIs(type(text), str)
            self.assertEqual(len(text.split("\n")), len(things) + len(ties))
            self.assertEqual(parts_of(text), (things, ties))
            again = read(text)
            self.assertIs(type(again), House)
            self.assertEqual((again.things(), again.ties()), (things, ties))
            self.assertEqual(written(again), text)

    def test_each_tie(self):
        for things in THINGS:
            for tie in all_ties(things):
                house = read(written(House(things, [tie])))
                self.assertEqual((house.things(), house.ties()), (things, [tie]))


class Read(unittest.TestCase):
    def test_all_seven_words(self):
        house = read("\n".join(ROWS_OF_ALL))
        self.assertEqual((house.things(), house.ties()), (THINGS_OF_ALL, TIES_OF_ALL))
        self.assertEqual({type(marks) for _, marks in house.things()}, {tuple})
        self.assertEqual({type(tie) for tie in house.ties()}, {tuple})

    def test_names_that_begin_one_another(self):
        house = read("thing abc 0\nthing a 0\nthing ab 0\nsum a ab abc\nwith ab a")
        self.assertEqual(house.ties(), [("sum", 1, 2, 0), ("with", 2, 1)])

    def test_each_number(self):
        for mark in range(-99, 100):
            house = read(f"thing a {mark}")
            self.assertEqual(house.things(), [("a", (mark,))])
            self.assertEqual(written(house), f"thing a {mark}")


class Refusals(unittest.TestCase):
    def refused(self, text, row):
        with self.assertRaises(BadText) as caught:
            read(text)
        self.assertEqual(caught.exception.row, row, repr(text))
        self.assertIsInstance(caught.exception, TrendError)
        self.assertIsInstance(caught.exception, ValueError)
        self.assertNotIsInstance(caught.exception, (BadHouse, BadRoom, BadRun))

    def no_house(self, text, word, number):
        with self.assertRaises(BadHouse) as caught:
            read(text)
        self.assertEqual((caught.exception.word, caught.exception.number), (word, number), repr(text))
        self.assertIsInstance(caught.exception, TrendError)
        self.assertIsInstance(caught.exception, ValueError)
        self.assertNotIsInstance(caught.exception, (BadText, BadRoom, BadRun))

    def test_an_empty_text_and_empty_rows(self):
        self.refused("", 0)
        self.refused("\n", 0)
        self.refused("\nthing a 0", 0)
        self.refused("thing a 0\n\nthing b 0", 1)
        self.refused("thing a 0\n", 1)
        self.refused("thing a 0\nthing b 0\nwith a b\n", 3)

    def test_a_thing_row(self):
        for row in ("thing", "thing a", "thing  0", "thing 0", "thing 0 0", "thing a b", "thing a 0 b", "thing a 0 b 1",
                    "thing A 0", "thing aB 0", "thing abcdefghi 0", "thing a1 0", "thing a_ 0", "thing a- 0",
                    "thing \u00e4 0", "thing \u0430 0", "Thing a 0", "THING a 0", "things a 0", "a 0", "thing,a,0"):
            self.refused(row, 0)
            self.refused(f"thing z 0\n{row}", 1)

    def test_numbers(self):
        for number in ("100", "-100", "-0", "00", "01", "-01", "000", "+1", "--1", "-", "", "1a", "a1", "-a", "1-",
                       "1.0", "1_0", "0x1", "1,2", "\u0661", "\u00b2", "\uff11", "-1\u0661", "\u22121", "1 ", " 1",
                       "1\r", "\t1"):
            self.refused(f"thing a {number}", 0)
            self.refused(f"thing a 5 {number}", 0)
            self.refused(f"thing a 5\nthing b 5 {number} 9", 1)
            self.refused(f"thing a 5\nunder a {number}", 1)
            self.refused(f"thing a 5\nrate a a {number}", 1)

    def test_blanks_and_line_ends(self):
        for row in (" thing a 0", "thing a 0 ", "thing  a 0", "thing a  0", "thing\ta 0", "thing a\t0", "thing a 0\t",
                    "thing a 0\r", "\rthing a 0", "thing a 0\v", "thing a 0\f", "thing\u00a0a 0", "thing a 0\u2028"):
            self.refused(row, 0)
            self.refused(f"thing b 0\n{row}\nthing c 0", 1)
        for end in ("\r\n", "\r", "\v", "\f", "\x1c", "\x85", "\u2028", "\u2029", ";", "\n\r"):
            self.refused(f"thing a 0{end}thing b 0", 1 if end == "\n\r" else 0)
        things = "thing a 0\nthing b 0\n"
        for row in (" with a b", "with a b ", "with  a b", "with a  b", "with\ta b", "with a b\r", "with a b\n"):
            self.refused(things + row, 3 if row.endswith("\n") else 2)

    def test_a_tie_row(self):
        things = "thing a 0\nthing b 0 2\nthing c 0\n"
        for row in ("with", "with a", "with a b c", "with a b 0", "with a 0", "with 0 1", "against a", "against a b c",
                    "sum a b", "sum a b c a", "sum a b c 0", "sum a b 0", "product a b", "product a b c a",
                    "product a b 0", "rate a b", "rate a b c", "rate a 0", "rate a b 0 0", "rate 0 a b", "under a",
                    "under", "under 0", "under a b", "under 0 a", "under a b 0", "under a 0 0", "over a", "over a 0 b",
                    "over a a", "With a b", "WITH a b", "between a b", "with, a b", "sums a b c", "a with b", "0"):
            self.refused(things + row, 3)
            self.refused(f"{things}with a b\n{row}\nwith a b", 4)

    def test_a_tie_of_a_thing_that_is_not_told_ahead(self):
        things = "thing ab 0\nthing abc 0\n"
        for row in ("with a abc", "with ab a", "with ab abcd", "sum ab abc b", "sum b ab abc", "product ab c ab",
                    "rate ab bc 0", "rate a ab 0", "under a 0", "over abcd 0", "with AB abc"):
            self.refused(things + row, 2)
        self.refused("with a b", 0)
        self.refused("with a b\nthing a 0\nthing b 0", 0)
        self.refused("thing a 0\nwith a b\nthing b 0", 1)

    def test_a_thing_behind_a_tie(self):
        self.refused("thing a 0\nunder a 0\nthing b 0", 2)
        self.refused("thing a 0\nunder a 0\nthing a 0\nthing c 0", 2)
        self.refused("thing a 0\nthing b 0\nwith a b\nover b 0\nthing c 0\nwith a c", 4)

    def test_a_row_left_out(self):
        self.refused("\n".join(ROWS_OF_ALL[1:]), 2)
        self.refused("\n".join(ROWS_OF_ALL[:1] + ROWS_OF_ALL[2:]), 2)
        self.refused("\n".join(ROWS_OF_ALL[:2] + ROWS_OF_ALL[3:]), 3)
        for at in range(3, 9):
            house = read("\n".join(ROWS_OF_ALL[:at] + ROWS_OF_ALL[at + 1:]))
            self.assertEqual(house.ties(), TIES_OF_ALL[:at - 3] + TIES_OF_ALL[at - 2:])

    def test_a_row_moved(self):
        for at in range(3, 9):
            for row in range(3):
                rows = ROWS_OF_ALL[:at] + ROWS_OF_ALL[at + 1:]
                rows.insert(row, ROWS_OF_ALL[at])
                self.refused("\n".join(rows), first_bad_row("\n".join(rows)))
        self.refused("with a b\nthing a 0\nthing b 0", 0)
        self.refused("thing a 0\nover a 0\nthing b 0\nwith a b", 2)
        self.assertEqual(read("thing b 0\nthing a 2\nunder b 0\nwith a b").ties(), [("under", 0, 0), ("with", 1, 0)])

    def test_a_row_twice(self):
        for at, row in enumerate(ROWS_OF_ALL):
            rows = ROWS_OF_ALL[:at] + [row] + ROWS_OF_ALL[at:]
            if at < 3:
                self.no_house("\n".join(rows), "things", 0)
            else:
                self.no_house("\n".join(rows), "ties", 0)
        self.no_house("thing a 0\nthing a 0", "thing", 1)
        self.no_house("thing a 0\nthing b 0\nthing a 5\nwith a b", "thing", 2)
        self.assertEqual(read("thing a 0\nunder a 0\nunder a 0").ties(), [("under", 0, 0)] * 2)

    def test_what_is_no_house(self):
        self.no_house("thing a 0 2 4 6", "thing", 0)
        self.no_house("thing a 0\nthing b 0 1", "thing", 1)
        self.no_house("thing a 5 5", "thing", 0)
        self.no_house("thing a 5 -5", "thing", 0)
        self.no_house("thing a 0\nthing b 0\nthing c 0\nthing d 0", "things", 0)
        self.no_house("thing a 0" + "\nunder a 0" * 7, "ties", 0)
        self.no_house("thing a 0\nthing b 0\nover a 0\nwith a a", "tie", 1)
        self.no_house("thing a 0\nthing b 0\nsum a a b", "tie", 0)
        self.no_house("thing a 0\nthing b 0\nsum a b a", "tie", 0)
        self.no_house("thing a 0\nthing b 0\nproduct b a b", "tie", 0)

    def test_a_mark_that_is_none(self):
        for number in ("1", "2", "10", "99", "-1", "-99"):
            self.no_house(f"thing a 0\nthing b 0 2 4\nover b 0\nunder a {number}", "tie", 1)
            self.no_house(f"thing a 0\nthing b 0 2 4\nrate b a {number}\nover b 0", "tie", 0)
        self.no_house("thing a 0\nthing b 0 2 4\nrate a b 3", "tie", 0)
        self.assertEqual(read("thing a 0\nthing b 0 2 4\nrate a b 2").ties(), [("rate", 0, 1, 2)])

    def test_a_bad_row_behind_what_would_be_no_house(self):
        for rows in ("thing a 0 1", "thing a 0\nthing a 0", "thing a 0\nwith a a", "thing a 0\nunder a 9",
                     "thing a 0\nthing b 0\nthing c 0\nthing d 0", "thing a 0" + "\nunder a 0" * 7):
            self.refused(rows + "\nunder b a", rows.count("\n") + 1)
            self.refused(rows + "\n", rows.count("\n") + 1)
            self.refused(rows + "\nunder a 0\nthing z 0", rows.count("\n") + 2)


class AnyText(unittest.TestCase):
    def changed(self, chosen, text):
        """The text with one character or one row changed."""
        at = chosen.randrange(len(text) + 1)
        letters = " \n\t\r-+0129aAbz" + text[at:at + 1]
        what = chosen.randrange(6)
        if what == 0:
            return text[:at] + text[at + 1:]
        if what == 1:
            return text[:at] + chosen.choice(letters) + text[at:]
        if what == 2:
            return text[:at] + chosen.choice(letters) + text[at + 1:]
        rows = text.split("\n")
        row = rows[chosen.randrange(len(rows))]
        if what == 3:
            rows.remove(row)
        words = row.split(" ")
        if what == 4:
            words[chosen.randrange(len(words))] = chosen.choice(words + list(WORDS) + ["a", "ab", "0", "2", "98"])
            rows[rows.index(row)] = " ".join(words)
        else:
            rows.insert(chosen.randrange(len(rows) + 1), row)
        return "\n".join(rows)

    def test_as_by_another_reader(self):
        chosen = random.Random(12)
        kinds = {}
        for things, ties in list(some_houses())[::2] + list(crowded_houses(17, 150)):
            for _ in range(20):
                text = written(House(things, ties))
                for _ in range(chosen.choice((1, 1, 2, 4))):
                    text = self.changed(chosen, text)
                row = first_bad_row(text)
                wanted = ("text", row) if row is not None else told(House, *parts_of(text))
                self.assertEqual(told(read, text), wanted, repr(text))
                kinds[wanted[0] if row is not None or wanted[0] == "house" else "good"] = True
        self.assertEqual(sorted(kinds), ["good", "house", "text"])


if __name__ == "__main__":
    unittest.main()
