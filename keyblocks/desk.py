"""Answers to a list of calls on one object, all as whole numbers."""

from keyblocks.refusals import ReadFault, Refusal
from keyblocks.settings import Settings

BEGIN = 1
READ = 2
PRINT = 3
TOP = 4
UP = 5
ENTER = 6
ITEM = 7
LOOK = 8
KEY = 9
TEXT = 10
SET = 11
MAKE = 12
PUT = 13
APPEND = 14
REMOVE = 15

DONE = 0
FAULT = -100


class UnknownCall(ValueError):
    """The list has a number where no call of that number is."""


class CallNumbers:
    """The numbers of a list of calls, taken from its beginning on; the list itself stays as it is."""

    def __init__(self, calls):
        self.calls = calls
        self.place = 0

    def some_left(self):
        """Whether there are numbers that haven't been taken."""
        return self.place < len(self.calls)

    def take_number(self):
        """The number that comes next."""
        number = self.calls[self.place]
        self.place += 1
        return number

    def take_row(self):
        """The row that comes next, its count before it."""
        count = self.take_number()
        row = tuple(self.calls[self.place:self.place + count])
        self.place += count
        return row


def answers(calls):
    """For each call, in order, how many numbers are answered, and these."""
    settings = Settings()
    numbers = CallNumbers(calls)
    told = []
    while numbers.some_left():
        answer = answer_or_refusal(settings, numbers)
        told.append(len(answer))
        told.extend(answer)
    return told


def answer_or_refusal(settings, numbers):
    """The numbers that the next call answers, be it refused or not."""
    try:
        return answer_next(settings, numbers)
    except ReadFault as fault:
        return [FAULT, fault.kind, fault.line, fault.column]
    except Refusal as refusal:
        return [-refusal.number]


def answer_next(settings, numbers):
    """The numbers that the next call answers. Raises its refusal."""
    call = numbers.take_number()
    if call == BEGIN:
        return [DONE, settings.begin()]
    if call == READ:
        return [DONE, settings.read(numbers.take_row())]
    if call == PRINT:
        return [DONE] + settings.printed()
    if call == LOOK:
        return [DONE] + settings.look()
    if call == KEY:
        return [DONE] + settings.key_here()
    if call == TEXT:
        return [DONE] + settings.text_here()
    if call < LOOK:
        return [DONE, answer_move(settings, numbers, call)]
    return [DONE, answer_edit(settings, numbers, call)]


def answer_move(settings, numbers, call):
    """The number that a call answers which moves the cursor."""
    if call == TOP:
        return settings.top()
    if call == UP:
        return settings.up()
    if call == ENTER:
        return settings.enter(numbers.take_row())
    if call == ITEM:
        return settings.item(numbers.take_number())
    raise UnknownCall()


def answer_edit(settings, numbers, call):
    """The number that an edit answers. Raises its refusal."""
    if call == SET:
        return settings.set_text(numbers.take_row())
    if call == MAKE:
        return settings.make(numbers.take_number())
    if call == PUT:
        return settings.put(numbers.take_row())
    if call == APPEND:
        return settings.append_item()
    if call == REMOVE:
        return settings.remove_here()
    raise UnknownCall()
