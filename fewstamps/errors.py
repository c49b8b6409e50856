"""The errors of the package, each with the values that it tells of."""


class InOrder(RuntimeError):
    """A message cannot be lost where messages come in order."""

    # Without this the built-in class would take any values.
    def __init__(self):
        pass


class NoEvent(LookupError):
    """There is no such EVENT."""

    def __init__(self, event):
        self.event = event


class NoMessage(LookupError):
    """There is no such message."""

    def __init__(self, message):
        self.message = message


class NoMachine(LookupError):
    """There is no MACHINE with this name."""

    def __init__(self, name):
        self.name = name


class NoCounter(LookupError):
    """There is no counter with this number."""

    def __init__(self, counter):
        self.counter = counter


class NotAhead(ValueError):
    """The one EVENT is not ahead of the other one."""

    def __init__(self, one, other):
        self.one = one
        self.other = other


class NotOpen(ValueError):
    """The pair of EVENTs is not open."""

    def __init__(self, one, other):
        self.one = one
        self.other = other


class OutOfOrder(ValueError):
    """The other message was sent later than the one, but came earlier."""

    def __init__(self, one, other):
        self.one = one
        self.other = other


class Backwards(ValueError):
    """A message from the one EVENT to the other one does not fit."""

    def __init__(self, one, other):
        self.one = one
        self.other = other


class BadLine(ValueError):
    """The line with this number is not so written, or cannot stand there."""

    def __init__(self, number):
        self.number = number


class BadRow(ValueError):
    """The part with this number is not so written, or no fitting ROW."""

    def __init__(self, number):
        self.number = number


class NotBehind(ValueError):
    """The last EVENT of this counter is not ahead of the new EVENT."""

    def __init__(self, counter):
        self.counter = counter


class SameMachine(ValueError):
    """A MACHINE does not send messages to itself."""

    def __init__(self, name):
        self.name = name


class Early(ValueError):
    """An earlier message, this one first, is still under way."""

    def __init__(self, number):
        self.number = number
