"""The refusals: each is an error of its own, with the number that is answered."""


class Refused(Exception):
    """A call is refused: whoever raises this has changed nothing of the session."""

    def __init__(self, number):
        self.number = number


class WrongNumbers(Refused):
    """A byte, a place, a row's length or a command's register is beyond what there is."""

    def __init__(self):
        Refused.__init__(self, -1)


class NoSuchRegister(Refused):
    """The call is about a register that there isn't."""

    def __init__(self):
        Refused.__init__(self, -2)


class RecordFull(Refused):
    """More commands would be recorded than a register may have."""

    def __init__(self):
        Refused.__init__(self, -5)


class OutOfTurn(Refused):
    """The call doesn't fit what is going on now."""

    def __init__(self):
        Refused.__init__(self, -7)


class TooMuch(Refused):
    """More plain commands or playings would be needed than are allowed."""

    def __init__(self):
        Refused.__init__(self, -8)


class NeverStops(Refused):
    """Playing until it fails would go round for ever."""

    def __init__(self):
        Refused.__init__(self, -9)
