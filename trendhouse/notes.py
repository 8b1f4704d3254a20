"""Notes: houses as texts."""

from trendhouse.errors import BadText
from trendhouse.houses import MARK_WORDS, THINGS_NAMED, House, is_name

FIGURES = "0123456789"
MOST_FIGURES = 2


def written(house):
    """The house as a text: a row for each thing, then one for each tie."""
    things = house.things()
    names = [name for name, _ in things]
    rows = [" ".join(["thing", name] + [str(mark) for mark in marks]) for name, marks in things]
    rows.extend([tie_row(names, tie) for tie in house.ties()])
    return "\n".join(rows)


def read(text):
    """The house that is written so."""
    things = []
    names = []
    ties = []
    for number, row in enumerate(text.split("\n")):
        words = row.split(" ")
        if is_thing_row(words) and len(ties) == 0:
            things.append((words[1], tuple([int(mark) for mark in words[2:]])))
            names.append(words[1])
        elif is_tie_row(names, words):
            ties.append(told_tie(names, words))
        else:
            raise BadText(number)
    return House(things, ties)


def tie_row(names, tie):
    """The row of a tie between things with these names."""
    behind = THINGS_NAMED[tie[0]] + 1
    words = [tie[0]] + [names[at] for at in tie[1:behind]] + [str(mark) for mark in tie[behind:]]
    return " ".join(words)


def is_thing_row(words):
    """Whether these are the words of a thing."""
    if len(words) < 3 or words[0] != "thing" or not is_name(words[1]):
        return False
    return all([is_number(word) for word in words[2:]])


def is_tie_row(names, words):
    """Whether these are the words of a tie between things with these names."""
    if words[0] not in THINGS_NAMED:
        return False
    behind = THINGS_NAMED[words[0]] + 1
    numbers = 1 if words[0] in MARK_WORDS else 0
    if len(words) != behind + numbers or not all([name in names for name in words[1:behind]]):
        return False
    return all([is_number(word) for word in words[behind:]])


def told_tie(names, words):
    """The tie that these words tell."""
    behind = THINGS_NAMED[words[0]] + 1
    numbers = [names.index(name) for name in words[1:behind]] + [int(word) for word in words[behind:]]
    return tuple([words[0]] + numbers)


def is_number(word):
    """Whether a word is a number of one or two figures, with no needless 0 or sign."""
    figures = word.removeprefix("-")
    # isdigit would let figures of other alphabets through, int some signs and blanks.
    if not 1 <= len(figures) <= MOST_FIGURES or not all([figure in FIGURES for figure in figures]):
        return False
    return word == "0" or figures[0] != "0"
