"""Houses: things with their marks, and the ties between the things."""

from trendhouse.errors import BadHouse

LETTERS = "abcdefghijklmnopqrstuvwxyz"
LONGEST_NAME = 8
MOST_THINGS = 3
MOST_MARKS = 3
MOST_TIES = 6
LOWEST_MARK = -99
HIGHEST_MARK = 99
LEAST_GAP = 2

# How many things a tie names, by its word.
THINGS_NAMED = {"with": 2, "against": 2, "sum": 3, "product": 3, "rate": 2, "under": 1, "over": 1}

# The ties that end in the number of a mark: always a mark of the last thing named.
MARK_WORDS = ("rate", "under", "over")


class House:
    """One to three things and none to six ties between them."""

    def __init__(self, things, ties):
        check_things(things)
        check_ties(things, ties)
        self._things = list(things)
        self._ties = list(ties)

    def things(self):
        """The things, as handed in: tuples (name, marks)."""
        return list(self._things)

    def ties(self):
        """The ties, as handed in: tuples of a word and numbers."""
        return list(self._ties)


def check_things(things):
    """Refuse things that are too few or too many, or the first one that is none."""
    if not 1 <= len(things) <= MOST_THINGS:
        raise BadHouse("things", 0)
    names = []
    for number, (name, marks) in enumerate(things):
        if name in names or not is_name(name) or not are_marks(marks):
            raise BadHouse("thing", number)
        names.append(name)


def check_ties(things, ties):
    """Refuse ties that are too many, or the first one that is none between these things."""
    if len(ties) > MOST_TIES:
        raise BadHouse("ties", 0)
    for number, tie in enumerate(ties):
        if not is_tie(things, tie):
            raise BadHouse("tie", number)


def is_name(text):
    """Whether a text is a name: one to eight small letters."""
    # islower would let figures and letters of other alphabets through.
    return 1 <= len(text) <= LONGEST_NAME and all([letter in LETTERS for letter in text])


def are_marks(marks):
    """Whether numbers are the marks of a thing: one to three, in bounds, none near the one ahead."""
    if not 1 <= len(marks) <= MOST_MARKS:
        return False
    if not all([LOWEST_MARK <= mark <= HIGHEST_MARK for mark in marks]):
        return False
    return all([high - low >= LEAST_GAP for low, high in zip(marks, marks[1:])])


def is_tie(things, tie):
    """Whether a tuple is a tie between these things."""
    if len(tie) == 0 or tie[0] not in THINGS_NAMED:
        return False
    word = tie[0]
    many = THINGS_NAMED[word]
    named = tie[1:many + 1]
    rest = tie[many + 1:]
    if len(named) != many or not all([is_number_below(at, len(things)) for at in named]):
        return False
    if word in MARK_WORDS:
        marks = things[named[-1]][1]
        return len(rest) == 1 and is_number_below(rest[0], len(marks))
    return len(rest) == 0 and named[0] not in named[1:]


def is_number_below(number, count):
    """Whether this counts one of so many, from 0 on; a text in its place doesn't."""
    return isinstance(number, int) and 0 <= number < count
