"""The errors that stand for what a call refuses."""


class Refusal(Exception):
    """A call that is refused, with the number that the document gives to why."""

    def __init__(self, number):
        self.number = number


class NotOfThisValue(Refusal):
    """The value under the cursor isn't one that the call could be of."""

    def __init__(self):
        Refusal.__init__(self, 1)


class TooDeep(Refusal):
    """Something would be put into a map or list that lies too deep for it."""

    def __init__(self):
        Refusal.__init__(self, 2)


class TooMuch(Refusal):
    """What is handed over is too long, or the printed form would be."""

    def __init__(self):
        Refusal.__init__(self, 3)


class TooLarge(Refusal):
    """What is to be read is too long, or its printed form would be."""

    def __init__(self):
        Refusal.__init__(self, 7)


class ReadFault(Exception):
    """A text can't be read: the first fault's kind and its place."""

    def __init__(self, kind, line, column):
        self.kind = kind
        self.line = line
        self.column = column
