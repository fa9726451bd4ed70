"""The errors that this library raises."""


class StackedputsError(ValueError):
    """Every error of this library is one of these."""


class InvalidKey(StackedputsError):
    """The store has no such key."""

    def __init__(self, key):
        self.key = key


class InvalidOperand(StackedputsError):
    """It is not an operand that clients write."""

    def __init__(self, operand):
        self.operand = operand


class NoMerge(StackedputsError):
    """The cells of the key can't be merged at the index."""

    def __init__(self, key, index):
        self.key = key
        self.index = index


class NoSettle(StackedputsError):
    """The oldest cell of the key can't be settled."""

    def __init__(self, key):
        self.key = key


class TooManyHolds(StackedputsError):
    """No further snapshot can be held."""


class InvalidHold(StackedputsError):
    """No snapshot with this number is held."""

    def __init__(self, number):
        self.number = number


class InvalidText(StackedputsError):
    """It is not the text of a scheme."""

    def __init__(self, text):
        self.text = text
