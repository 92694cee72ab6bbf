"""The calls, and their answers."""

from functionterms.reading import NotATerm, is_name, read_text
from functionterms.stepping import MOST_SIZE, work_out
from functionterms.writing import write_term

LONGEST_TEXT = 2048
MOST_DEFINED_SIZE = 1024
MOST_DEFINED = 16

WRONG_FORM = -1
NO_TERM = -2
UNKNOWN_NAME = -3
NOT_NORMAL = -4
TOO_LARGE = -5
TOO_LONG = -6
TOO_MANY = -7

BEGIN = 0
DEFINE = 1
NORMAL = 2


# The calls 3 to 5 are not there yet; to answer them as another call would be worse than to fail.
class UnknownCall(ValueError):
    pass


# The terms of the defined names hold no defined names themselves, so they stay what they were when a name is defined
# anew.
class Line:
    def __init__(self):
        self.defined = {}

    def begin(self):
        self.defined = {}
        return [0]

    def define(self, name, text):
        if not is_name(name) or len(text) > LONGEST_TEXT:
            return [WRONG_FORM]
        try:
            reading = read_text(text, self.defined)
        except NotATerm:
            return [NO_TERM]
        if len(reading.unknown) > 0:
            return [UNKNOWN_NAME]
        if reading.term.size > MOST_DEFINED_SIZE:
            return [TOO_LARGE]
        key = tuple(name)
        if len(self.defined) >= MOST_DEFINED and key not in self.defined:
            return [TOO_MANY]
        self.defined[key] = reading.term
        return [0]

    def normal(self, steps, most, text):
        if len(text) > LONGEST_TEXT:
            return [WRONG_FORM]
        try:
            reading = read_text(text, self.defined)
        except NotATerm:
            return [NO_TERM]
        work = work_out(reading.term, steps)
        if work.size > MOST_SIZE:
            return [TOO_LARGE, work.steps]
        if not work.finished:
            return [NOT_NORMAL, work.steps]
        written = write_term(work.place)
        if len(written) > most:
            return [TOO_LONG, work.steps]
        return [len(written), work.steps] + written


# The numbers that are handed in, and how far they are read.
class Tape:
    def __init__(self, numbers):
        self.numbers = numbers
        self.at = 0

    def has_more(self):
        return self.at < len(self.numbers)

    def take_number(self):
        number = self.numbers[self.at]
        self.at += 1
        return number

    def take_row(self):
        length = self.take_number()
        row = self.numbers[self.at:self.at + length]
        self.at += length
        return row


def answer_next(line, tape):
    call = tape.take_number()
    if call == BEGIN:
        return line.begin()
    if call == DEFINE:
        name = tape.take_row()
        return line.define(name, tape.take_row())
    if call == NORMAL:
        steps = tape.take_number()
        most = tape.take_number()
        return line.normal(steps, most, tape.take_row())
    raise UnknownCall()


def answers(calls):
    line = Line()
    tape = Tape(calls)
    answered = []
    while tape.has_more():
        answer = answer_next(line, tape)
        answered.append(len(answer))
        answered.extend(answer)
    return answered
