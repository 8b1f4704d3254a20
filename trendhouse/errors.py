"""The refusals of trendhouse."""


class TrendError(ValueError):
    """Any refusal."""


class BadHouse(TrendError):
    """What was handed in is no house: a word for the part, and the part's number."""

    def __init__(self, word, number):
        super().__init__(f"no house: {word} {number}")
        self.word = word
        self.number = number


class BadRoom(TrendError):
    """What was handed in is no room of the house."""


class BadRun(TrendError):
    """What was handed in is no run: the number of its first bad row, or how many rows there are."""

    def __init__(self, row):
        super().__init__(f"no run: row {row}")
        self.row = row


class BadText(TrendError):
    """What was handed in is no written house: the number of its first bad row."""

    def __init__(self, row):
        super().__init__(f"no written house: row {row}")
        self.row = row
