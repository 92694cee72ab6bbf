"""From normal terms, and from names, to text."""

from functionterms.nodes import APPLICATION, FREE, FUNCTION
from functionterms.signs import BACKSLASH, LEFT_PARENTHESIS, LETTER_A, POINT, RIGHT_PARENTHESIS, SPACE

LETTERS = 26


def free_names(term):
    found = {}
    todo = [term]
    while todo:
        part = todo.pop()
        if part.kind == FREE:
            found[part.label] = True
        elif part.kind == APPLICATION:
            todo.append(part.second)
            todo.append(part.first)
        elif part.kind == FUNCTION:
            todo.append(part.first)
    return found


# The name that so many come before in the row a, b, .. z, a1, .. z1, a2, ..
def name_in_order(number):
    letter = LETTER_A + number % LETTERS
    if number < LETTERS:
        return (letter,)
    return tuple([letter] + [ord(digit) for digit in str(number // LETTERS)])


# The names of functions, by how many others they stand in; those that are taken are left out.
class FunctionNames:
    def __init__(self, taken):
        self.taken = taken
        self.chosen = []
        self.tried = 0

    def name_at(self, level):
        while len(self.chosen) <= level:
            name = name_in_order(self.tried)
            self.tried += 1
            if name not in self.taken:
                self.chosen.append(name)
        return list(self.chosen[level])


# A part that is still to be written: in how many functions it stands, and where in its row of parts.
class Part:
    def __init__(self, term, level, is_last, is_argument):
        self.term = term
        self.level = level
        self.is_last = is_last
        self.is_argument = is_argument


def in_parentheses(pieces):
    return [[LEFT_PARENTHESIS]] + pieces + [[RIGHT_PARENTHESIS]]


def pieces_of_function(part, names):
    head = [BACKSLASH] + names.name_at(part.level) + [POINT]
    pieces = [head, Part(part.term.first, part.level + 1, True, False)]
    return pieces if part.is_last else in_parentheses(pieces)


def pieces_of_application(part):
    # In parentheses of its own it is a whole row, and its argument the last part of that.
    ends_row = part.is_last or part.is_argument
    first = Part(part.term.first, part.level, False, False)
    second = Part(part.term.second, part.level, ends_row, True)
    pieces = [first, [SPACE], second]
    return in_parentheses(pieces) if part.is_argument else pieces


# Lists of bytes, and smaller parts.
def pieces_of(part, names):
    if part.term.kind == FUNCTION:
        return pieces_of_function(part, names)
    if part.term.kind == APPLICATION:
        return pieces_of_application(part)
    if part.term.kind == FREE:
        return [list(part.term.label)]
    return [names.name_at(part.term.label)]


# The term is one that was worked out to the end: its functions were all entered, and their names in it are OUTER.
def write_term(term):
    names = FunctionNames(free_names(term))
    text = []
    todo = [Part(term, 0, True, False)]
    while todo:
        piece = todo.pop()
        if isinstance(piece, list):
            text.extend(piece)
        else:
            todo.extend(list(reversed(pieces_of(piece, names))))
    return text


def write_names(names):
    text = []
    for name in names:
        if len(text) > 0:
            text.append(SPACE)
        text.extend(list(name))
    return text
