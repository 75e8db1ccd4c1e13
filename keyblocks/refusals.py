"""The errors that stand for what a call refuses."""


class Refusal(Exception):
    """A call that is refused, with the number that the document gives to why."""

    def __init__(self, number):
        self.number = number


class TooLarge(Refusal):
    """What is to be read is too long, or its printed form would be."""

    def __init__(self):
        Refusal.__init__(self, 7)


class ReadFault(Exception):
    """A text can't be read: the first fault's kind and its place."""

    def __init__(self, kind, line, column):
        self.kind = kind
        self.line = line
        self.column = column
