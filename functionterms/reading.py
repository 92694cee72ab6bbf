"""From text to terms."""

from functionterms.nodes import make_application, make_bound, make_free, make_function
from functionterms.signs import BACKSLASH, DIGIT_0, DIGIT_9, LEFT_PARENTHESIS, LETTER_A, LETTER_Z
from functionterms.signs import LINE_FEED, POINT, RIGHT_PARENTHESIS, SPACE, TAB

LONGEST_NAME = 8

BY_START = 0
BY_PARENTHESIS = 1
BY_FUNCTION = 2


class NotATerm(ValueError):
    pass


def is_letter(byte):
    return LETTER_A <= byte <= LETTER_Z


def is_letter_or_digit(byte):
    return is_letter(byte) or DIGIT_0 <= byte <= DIGIT_9


def is_blank(byte):
    return byte in (TAB, LINE_FEED, SPACE)


def is_name(row):
    if not 1 <= len(row) <= LONGEST_NAME or not is_letter(row[0]):
        return False
    return all([is_letter_or_digit(byte) for byte in row])


def end_of_word(text, start):
    end = start
    while end < len(text) and is_letter_or_digit(text[end]):
        end += 1
    return end


# Names become tuples and signs stay numbers, so that the two can't be mistaken for one another.
def tokens_of(text):
    tokens = []
    at = 0
    while at < len(text):
        if is_letter_or_digit(text[at]):
            end = end_of_word(text, at)
            word = tuple(text[at:end])
            if not is_name(word):
                raise NotATerm()
            tokens.append(word)
            at = end
        else:
            if not is_blank(text[at]):
                tokens.append(text[at])
            at += 1
    return tokens


# A row of parts that is being read: what began it, its function's name, and its parts so far as one term.
class Row:
    def __init__(self, begun, name):
        self.begun = begun
        self.name = name
        self.term = None


# What is known while a text is read. The rows that are begun and not ended are kept in a list, because terms may nest
# deeper than calls may.
class Reader:
    def __init__(self, defined):
        self.defined = defined
        self.rows = [Row(BY_START, None)]
        self.depth = 0
        self.owners = {}
        self.unknown = {}

    def add_part(self, part):
        row = self.rows[-1]
        row.term = part if row.term is None else make_application(row.term, part)

    def add_name(self, name):
        owners = self.owners.get(name, [])
        if len(owners) > 0:
            self.add_part(make_bound(self.depth - owners[-1]))
        elif name in self.defined:
            self.add_part(self.defined[name])
        else:
            self.unknown[name] = True
            self.add_part(make_free(name))

    def begin_function(self, name):
        self.rows.append(Row(BY_FUNCTION, name))
        self.depth += 1
        self.owners.setdefault(name, []).append(self.depth)

    def end_row(self):
        row = self.rows.pop()
        if row.term is None:
            raise NotATerm()
        return row

    # A function goes on as far as it can, so all that began since the last parenthesis end together.
    def end_functions(self):
        while self.rows[-1].begun == BY_FUNCTION:
            row = self.end_row()
            self.owners[row.name].pop()
            self.depth -= 1
            self.add_part(make_function(row.term))

    def end_parenthesis(self):
        self.end_functions()
        if self.rows[-1].begun != BY_PARENTHESIS:
            raise NotATerm()
        row = self.end_row()
        self.add_part(row.term)

    def end_text(self):
        self.end_functions()
        if self.rows[-1].begun != BY_START:
            raise NotATerm()
        return self.end_row().term


def function_name(tokens, at):
    if at + 2 >= len(tokens) or tokens[at + 2] != POINT or not isinstance(tokens[at + 1], tuple):
        raise NotATerm()
    return tokens[at + 1]


# Answers where the next tokens stand.
def take_part(reader, tokens, at):
    token = tokens[at]
    if token == BACKSLASH:
        reader.begin_function(function_name(tokens, at))
        return at + 3
    if token == LEFT_PARENTHESIS:
        reader.rows.append(Row(BY_PARENTHESIS, None))
    elif token == RIGHT_PARENTHESIS:
        reader.end_parenthesis()
    elif isinstance(token, tuple):
        reader.add_name(token)
    else:
        raise NotATerm()
    return at + 1


# What a text says: its term, and the free names that are not defined, as keys, in the order in which they come first.
class Reading:
    def __init__(self, term, unknown):
        self.term = term
        self.unknown = unknown


# A defined name's term has no free names, so it can be put in as it is, whatever functions stand around.
def read_text(text, defined):
    reader = Reader(defined)
    tokens = tokens_of(text)
    at = 0
    while at < len(tokens):
        at = take_part(reader, tokens, at)
    return Reading(reader.end_text(), reader.unknown)
