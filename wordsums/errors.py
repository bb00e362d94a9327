"""The errors by which the program refuses."""


class SumError(ValueError):
    """Any refusal."""


class BadSheet(SumError):
    """A sheet cannot be: the number of the sum, and a word for what is wrong."""

    def __init__(self, at, why):
        SumError.__init__(self, f"sum {at}: {why}")
        self.at = at
        self.why = why


class NoAnswer(SumError):
    """A sheet has no answer, as its table shows."""

    def __init__(self, table):
        SumError.__init__(self, "the sheet has no answer")
        self.table = table


class ManyAnswers(SumError):
    """A sheet has more answers than one: the first two of them."""

    def __init__(self, two):
        SumError.__init__(self, "the sheet has more answers than one")
        self.two = list(two)


class NotOne(SumError):
    """What was asked about is no answer, or no answer has it."""


class BadText(SumError):
    """A text is not a sheet's: the number of its first row that is wrong."""

    def __init__(self, row):
        SumError.__init__(self, f"row {row} is not as it must be")
        self.row = row
