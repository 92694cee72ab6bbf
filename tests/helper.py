"""Calls told in texts, and answers taken apart."""

from functionterms.terms import answers

PLENTY = 4294967295
MOST_SIZE = 4096


def row(text):
    numbers = list(text.encode("latin-1"))
    return [len(numbers)] + numbers


def begin():
    return [0]


def define(name, text):
    return [1] + row(name) + row(text)


def normal(text, steps=PLENTY, most=PLENTY):
    return [2, steps, most] + row(text)


def split(answered):
    """The answers, each a list of its own."""
    parts = []
    at = 0
    while at < len(answered):
        end = at + 1 + answered[at]
        parts.append(answered[at + 1:end])
        at = end
    if at != len(answered):
        raise ValueError("an answer is shorter than told")
    return parts


def told(*calls):
    """The answers to these calls in one line."""
    return split(answers([number for call in calls for number in call]))


def last(*calls):
    return told(*calls)[-1]


def success(steps, text):
    """What normal answers if the term gets normal and its text fits."""
    return [len(text), steps] + list(text.encode("latin-1"))


def sized(size):
    """The text of a normal term without free names that has this size, 2 at least."""
    names = size // 2
    head = "\\x." if size % 2 == 0 else "\\y.\\x."
    return head + " ".join(["x"] * names)
