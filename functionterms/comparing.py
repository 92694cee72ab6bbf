"""What a term is: the same as another, or a number."""

from functionterms.nodes import APPLICATION, FUNCTION, OUTER


# The functions' names are gone from terms that were read, so the same but for these is the same all through.
def are_same(first, second):
    todo = [(first, second)]
    while todo:
        pair = todo.pop()
        one = pair[0]
        other = pair[1]
        if one.kind != other.kind or one.label != other.label:
            return False
        if one.kind == APPLICATION:
            todo.append((one.second, other.second))
            todo.append((one.first, other.first))
        elif one.kind == FUNCTION:
            todo.append((one.first, other.first))
    return True


def is_name_of(term, level):
    return term.kind == OUTER and term.label == level


# How often f stands in \f.\x.x, \f.\x.f x, \f.\x.f (f x) and so on; None if the term is none of these.
#
# The term is one that was worked out to the end: its functions were all entered, and their names in it are OUTER.
def number_of(term):
    if term.kind != FUNCTION or term.first.kind != FUNCTION:
        return None
    rest = term.first.first
    count = 0
    while rest.kind == APPLICATION and is_name_of(rest.first, 0):
        rest = rest.second
        count += 1
    return count if is_name_of(rest, 1) else None
