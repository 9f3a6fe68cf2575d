"""The errors that the package raises.

No message shows the faulty value: a very long integer cannot be written out.
"""


class PostError(ValueError):
    """The base class of all errors of the package."""


class InvalidNet(PostError):
    """A part of a net is invalid: "period", "houses" or "orders", the last one at an index."""

    def __init__(self, part, index):
        super().__init__(f"invalid {part} of a net, index {index}")
        self.part = part
        self.index = index


class InvalidDay(PostError):
    """A day is not an integer from 0 to the last day that may be passed."""


class UnknownHouse(PostError):
    """A net does not have this house."""


class UnknownOrder(PostError):
    """A net does not have an order of this number."""


class InvalidLimit(PostError):
    """A limit of a plan is invalid."""


class InvalidOrder(PostError):
    """A value is not an order of a net."""


class TooManyOrders(PostError):
    """A net would have more orders than it may have."""


class TooLong(PostError):
    """The periods of two nets repeat together only after too many days."""


class InvalidResult(PostError):
    """A value is not a result of a letter."""


class Contradiction(PostError):
    """An observation would leave no candidate for the hidden order."""


class TextFault(PostError):
    """A line of a text is invalid."""

    def __init__(self, line):
        super().__init__(f"invalid text at line {line}")
        self.line = line


class InvalidCode(PostError):
    """A list of bytes is invalid at a place."""

    def __init__(self, place):
        super().__init__(f"invalid code at place {place}")
        self.place = place


class InvalidName(PostError):
    """A value is not a name of a snapshot."""


class UnknownName(PostError):
    """There is no snapshot of this name."""


class InvalidOperation(PostError):
    """An entry of a list of operations is invalid."""

    def __init__(self, place):
        super().__init__(f"invalid operation at place {place}")
        self.place = place
