"""The calls, and their answers."""

from functionterms.comparing import are_same, number_of
from functionterms.reading import NotATerm, is_name, read_text
from functionterms.stepping import MOST_SIZE, work_out
from functionterms.writing import write_names, write_term

LONGEST_TEXT = 2048
MOST_DEFINED_SIZE = 1024
MOST_DEFINED = 16

WRONG_FORM = -1
NO_TERM = -2
UNKNOWN_NAME = -3
NOT_NORMAL = -4
TOO_LARGE = -5
TOO_LONG = -6
TOO_MANY = -7
NO_NUMBER = -8

BEGIN = 0
DEFINE = 1
NORMAL = 2
SAME = 3
NUMBER = 4
NAMES = 5


class UnknownCall(ValueError):
    pass


# None if the work led to a normal term.
def refusal_of(work):
    if work.size > MOST_SIZE:
        return TOO_LARGE
    if not work.finished:
        return NOT_NORMAL
    return None


# The terms of the defined names hold no defined names themselves, so they stay what they were when a name is defined
# anew.
class Line:
    def __init__(self):
        self.defined = {}

    def begin(self):
        self.defined = {}
        return [0]

    def define(self, name, text):
        if not is_name(name) or len(text) > LONGEST_TEXT:
            return [WRONG_FORM]
        try:
            reading = read_text(text, self.defined)
        except NotATerm:
            return [NO_TERM]
        if len(reading.unknown) > 0:
            return [UNKNOWN_NAME]
        if reading.term.size > MOST_DEFINED_SIZE:
            return [TOO_LARGE]
        key = tuple(name)
        if len(self.defined) >= MOST_DEFINED and key not in self.defined:
            return [TOO_MANY]
        self.defined[key] = reading.term
        return [0]

    def normal(self, steps, most, text):
        if len(text) > LONGEST_TEXT:
            return [WRONG_FORM]
        try:
            reading = read_text(text, self.defined)
        except NotATerm:
            return [NO_TERM]
        work = work_out(reading.term, steps)
        refusal = refusal_of(work)
        if refusal is not None:
            return [refusal, work.steps]
        written = write_term(work.place)
        if len(written) > most:
            return [TOO_LONG, work.steps]
        return [len(written), work.steps] + written

    def same(self, a, b):
        if len(a) > LONGEST_TEXT or len(b) > LONGEST_TEXT:
            return [WRONG_FORM]
        try:
            first = read_text(a, self.defined).term
            second = read_text(b, self.defined).term
        except NotATerm:
            return [NO_TERM]
        if first.size > MOST_SIZE or second.size > MOST_SIZE:
            return [TOO_LARGE]
        return [1 if are_same(first, second) else 0]

    def number(self, steps, text):
        if len(text) > LONGEST_TEXT:
            return [WRONG_FORM]
        try:
            reading = read_text(text, self.defined)
        except NotATerm:
            return [NO_TERM]
        work = work_out(reading.term, steps)
        refusal = refusal_of(work)
        if refusal is not None:
            return [refusal]
        found = number_of(work.place)
        return [NO_NUMBER if found is None else found]

    def names(self, most, text):
        if len(text) > LONGEST_TEXT:
            return [WRONG_FORM]
        try:
            reading = read_text(text, self.defined)
        except NotATerm:
            return [NO_TERM]
        written = write_names(list(reading.unknown))
        if len(written) > most:
            return [TOO_LONG]
        return [len(written)] + written


# The numbers that are handed in, and how far they are read.
class Tape:
    def __init__(self, numbers):
        self.numbers = numbers
        self.at = 0

    def has_more(self):
        return self.at < len(self.numbers)

    def take_number(self):
        number = self.numbers[self.at]
        self.at += 1
        return number

    def take_row(self):
        length = self.take_number()
        row = self.numbers[self.at:self.at + length]
        self.at += length
        return row


def answer_next(line, tape):
    call = tape.take_number()
    if call == BEGIN:
        return line.begin()
    if call == DEFINE:
        name = tape.take_row()
        return line.define(name, tape.take_row())
    if call == NORMAL:
        steps = tape.take_number()
        most = tape.take_number()
        return line.normal(steps, most, tape.take_row())
    if call == SAME:
        a = tape.take_row()
        return line.same(a, tape.take_row())
    if call == NUMBER:
        steps = tape.take_number()
        return line.number(steps, tape.take_row())
    if call == NAMES:
        most = tape.take_number()
        return line.names(most, tape.take_row())
    raise UnknownCall()


def answers(calls):
    line = Line()
    tape = Tape(calls)
    answered = []
    while tape.has_more():
        answer = answer_next(line, tape)
        answered.append(len(answer))
        answered.extend(answer)
    return answered
