"""The errors of the program. Their texts show no values: a number may have too many digits to be written."""


class StoreError(ValueError):
    """The base class of all errors that the program raises."""


class NoCycle(StoreError):
    """A cycle that is not from 1 to 60."""


class NoTable(StoreError):
    """A value that is not a table."""


class DifferentCycles(StoreError):
    """Tables or answers of different cycles that should be combined."""


class NoWhen(StoreError):
    """A "when" that is not valid for the cycle."""


class NoRow(StoreError):
    """A name that is not a word, or a row that is not a row."""


class OtherColumns(StoreError):
    """An answer whose columns are not the ones that are needed."""


class NoQuestion(StoreError):
    """A question that is not valid at the node to which the path leads."""

    def __init__(self, path):
        super().__init__("the question is not valid")
        self.path = path


class BadText(StoreError):
    """A text that cannot be read from the index on."""

    def __init__(self, at):
        super().__init__("the text cannot be read")
        self.at = at


class NoFact(StoreError):
    """No fact has this number."""

    def __init__(self, number):
        super().__init__("no fact has this number")
        self.number = number


class NoKept(StoreError):
    """No kept question has this number."""

    def __init__(self, number):
        super().__init__("no kept question has this number")
        self.number = number


class NoGuard(StoreError):
    """No guard has this number."""

    def __init__(self, number):
        super().__init__("no guard has this number")
        self.number = number


class Forbidden(StoreError):
    """The guard with this number has its first row at this moment."""

    def __init__(self, guard, moment, row):
        super().__init__("a forbidden question has a row")
        self.guard = guard
        self.moment = moment
        self.row = row
