"""Calls told in texts, and answers taken apart."""

from functionterms.terms import answers

PLENTY = 4294967295
MOST_SIZE = 4096

OMEGA = "(\\x.x x) (\\x.x x)"
GROWING = "(\\x.x x x) (\\x.x x x)"


def row(text):
    numbers = list(text.encode("latin-1"))
    return [len(numbers)] + numbers


def begin():
    return [0]


def define(name, text):
    return [1] + row(name) + row(text)


def normal(text, steps=PLENTY, most=PLENTY):
    return [2, steps, most] + row(text)


def same(a, b):
    return [3] + row(a) + row(b)


def number(text, steps=PLENTY):
    return [4, steps] + row(text)


def names(text, most=PLENTY):
    return [5, most] + row(text)


def split(answered):
    """The answers, each a list of its own."""
    parts = []
    at = 0
    while at < len(answered):
        end = at + 1 + answered[at]
        parts.append(answered[at + 1:end])
        at = end
    if at != len(answered):
        raise ValueError("an answer is shorter than told")
    return parts


def told(*calls):
    """The answers to these calls in one line."""
    return split(answers([told_number for call in calls for told_number in call]))


def last(*calls):
    return told(*calls)[-1]


def success(steps, text):
    """What normal answers if the term gets normal and its text fits."""
    return [len(text), steps] + list(text.encode("latin-1"))


def listed(text):
    """What names answers if these are the names."""
    return [len(text)] + list(text.encode("latin-1"))


def numeral(count):
    """The text of the term that stands for this number, without blanks and parentheses that aren't needed."""
    if count == 0:
        return "\\f.\\x.x"
    return "\\f.\\x." + "f(" * (count - 1) + "f x" + ")" * (count - 1)


def sized(size):
    """The text of a normal term without free names that has this size, 2 at least."""
    names = size // 2
    head = "\\x." if size % 2 == 0 else "\\y.\\x."
    return head + " ".join(["x"] * names)


TWO_AND_I = [define("two", numeral(2)), define("i", "\\x.x")]


def doubled(times, argument):
    """A term that makes 3 * 2 ** times - 2 steps on its way to the argument, with TWO_AND_I."""
    return "two (" * times + "i" + ")" * times + " (" + argument + ")"


def hundred_thousand_steps(argument):
    """A term that makes so many steps on its way to the argument, with TWO_AND_I."""
    return doubled(15, doubled(9, doubled(5, doubled(4, doubled(3, "i (i (" + argument + "))")))))
