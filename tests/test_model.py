"""Many small terms, asked of the program and of a plain model of the document.

The model keeps the functions' names and renames them at every step; it looks for its place from the whole term's
beginning, and counts every size anew. So it shares no way of working with the program.
"""

import re
import unittest

from helper import MOST_SIZE, define, listed, names, normal, number, same, success, told

STEPS = 60


def read(text):
    tokens = re.findall(r"[a-z][a-z0-9]*|[().\\]", text)
    term, rest = read_row(tokens)
    assert rest == []
    return term


def read_row(tokens):
    term = None
    while tokens and tokens[0] != ")":
        if tokens[0] == "\\":
            body, rest = read_row(tokens[3:])
            part = ("function", tokens[1], body)
        elif tokens[0] == "(":
            part, rest = read_row(tokens[1:])
            rest = rest[1:]
        else:
            part, rest = ("name", tokens[0]), tokens[1:]
        term = part if term is None else ("application", term, part)
        tokens = rest
    return term, tokens


class Fresh:
    """Names that no text can have."""

    def __init__(self):
        self.count = 0

    def name(self):
        self.count += 1
        return "#" + str(self.count)


def replaced(term, name, argument, fresh):
    if term[0] == "name":
        return argument if term[1] == name else term
    if term[0] == "application":
        return ("application", replaced(term[1], name, argument, fresh), replaced(term[2], name, argument, fresh))
    if term[1] == name:
        return term
    new = fresh.name()
    body = replaced(term[2], term[1], ("name", new), fresh)
    return ("function", new, replaced(body, name, argument, fresh))


def stepped(term, fresh):
    """The term after one step, or None if it is normal."""
    if term[0] == "name":
        return None
    if term[0] == "function":
        body = stepped(term[2], fresh)
        return None if body is None else ("function", term[1], body)
    if term[1][0] == "function":
        return replaced(term[1][2], term[1][1], term[2], fresh)
    first = stepped(term[1], fresh)
    if first is not None:
        return ("application", first, term[2])
    second = stepped(term[2], fresh)
    return None if second is None else ("application", term[1], second)


def size(term):
    if term[0] == "name":
        return 1
    if term[0] == "function":
        return 1 + size(term[2])
    return 1 + size(term[1]) + size(term[2])


def free(term):
    if term[0] == "name":
        return {term[1]}
    if term[0] == "function":
        return free(term[2]) - {term[1]}
    return free(term[1]) | free(term[2])


def written(term):
    taken = free(term)
    order = [letter + digits for digits in ("", "1", "2", "3") for letter in "abcdefghijklmnopqrstuvwxyz"]
    return row_of(term, [name for name in order if name not in taken], {}, 0)


def row_of(term, order, names, level):
    if term[0] == "name":
        return names.get(term[1], term[1])
    if term[0] == "function":
        own = order[level]
        return "\\" + own + "." + row_of(term[2], order, {**names, term[1]: own}, level + 1)
    parts = []
    while term[0] == "application":
        parts.insert(0, term[2])
        term = term[1]
    texts = [row_of(part, order, names, level) for part in [term] + parts]
    for k, part in enumerate([term] + parts):
        if part[0] == "application" or part[0] == "function" and k < len(parts):
            texts[k] = "(" + texts[k] + ")"
    return " ".join(texts)


def meant(text, defined, fresh):
    """The text's term, with those of the defined names put in."""
    term = read(text)
    for name, other in defined:
        term = replaced(term, name, read(other), fresh)
    return term


def worked_out(text, defined):
    """The refusal that is due or None, how many steps were made, and the term they led to."""
    fresh = Fresh()
    term = meant(text, defined, fresh)
    steps = 0
    following = stepped(term, fresh)
    while following is not None and size(term) <= MOST_SIZE and steps < STEPS:
        term = following
        steps += 1
        following = stepped(term, fresh)
    if size(term) > MOST_SIZE:
        return -5, steps, term
    return None if following is None else -4, steps, term


def model_of_normal(text, defined, most):
    refusal, steps, term = worked_out(text, defined)
    if refusal is not None:
        return [refusal, steps]
    answer = written(term)
    return [-6, steps] if len(answer) > most else success(steps, answer)


def model_of_same(a, b, defined):
    """Two terms are the same but for their functions' names if they are written alike."""
    return [1 if written(meant(a, defined, Fresh())) == written(meant(b, defined, Fresh())) else 0]


def model_of_number(text, defined):
    refusal, steps, term = worked_out(text, defined)
    if refusal is not None:
        return [refusal]
    found = re.fullmatch(r"\\a\.\\b\.((?:a \()*)(a )?b(\)*)", written(term))
    return [-8] if found is None else [found[1].count("a") + (found[2] or "").count("a")]


def model_of_names(text, defined, most):
    found = []
    todo = [(read(text), [name for name, other in defined])]
    while todo:
        term, left_out = todo.pop(0)
        if term[0] == "function":
            todo.insert(0, (term[2], left_out + [term[1]]))
        elif term[0] == "application":
            todo[0:0] = [(term[1], left_out), (term[2], left_out)]
        elif term[1] not in left_out + found:
            found.append(term[1])
    answer = " ".join(found)
    return [-6] if len(answer) > most else listed(answer)


class Choices:
    """Numbers in no order that can be seen, and yet the same every time."""

    def __init__(self, seed):
        self.state = seed

    def below(self, bound):
        self.state = (self.state * 6364136223846793005 + 1442695040888963407) % 2 ** 64
        return (self.state >> 33) % bound


def term_text(choices, budget):
    """A text whose term has about this many parts."""
    names = ("x", "y", "z", "a", "b", "i", "k", "s", "w", "two")
    if budget <= 1:
        return names[choices.below(len(names))]
    if choices.below(5) < 2:
        return "(\\" + names[choices.below(6)] + "." + term_text(choices, budget - 1) + ")"
    left = 1 + choices.below(budget - 1)
    first = term_text(choices, left)
    second = term_text(choices, budget - left)
    return first + " " + (second if choices.below(4) == 0 else "(" + second + ")")


def changed(choices, text):
    """The text with one of its names changed, a function's all through or any at one place; it stays a term."""
    found = list(re.finditer(r"[a-z]+", text))
    chosen = found[choices.below(len(found))]
    other = ("x", "y", "z", "q", "i", "k")[choices.below(6)]
    if choices.below(2) == 0:
        return text[:chosen.start()] + other + text[chosen.end():]
    return re.sub(r"\b" + chosen[0] + r"\b", other, text)


def number_text(choices, budget):
    """A text that leads to a number more often than others do."""
    if choices.below(3) == 0:
        return term_text(choices, budget)
    parts = ("two", "(k i)", "i", "(two two)", "(\\f.\\x.f x)", "(\\f.\\x.f (f (f x)))", "k", "w")
    row = " ".join([parts[choices.below(len(parts))] for part in range(1 + choices.below(3))])
    if choices.below(2) == 0:
        return row
    ends = ("x", "x", "(f x)", "(f (f x))", "(f f)", "(x x)", "y", "((\\x.f x) x)")
    return "\\f.\\x." + row + " f " + ends[choices.below(len(ends))]


DEFINED = (
    ("i", "\\x.x"), ("k", "\\x.\\y.x"), ("s", "\\x.\\y.\\z.x z (y z)"), ("w", "\\x.x x"), ("two", "\\f.\\x.f (f x)"))


class AgainstTheModel(unittest.TestCase):
    def compare(self, texts, most):
        calls = [define(name, text) for name, text in DEFINED]
        calls += [normal(text, STEPS, limit) for text, limit in zip(texts, most)]
        answered = told(*calls)[len(DEFINED):]
        for text, limit, answer in zip(texts, most, answered):
            self.assertEqual(answer, model_of_normal(text, DEFINED, limit), text)
        return [answer[0] for answer in answered]

    def compare_chosen(self, seed, budget):
        choices = Choices(seed)
        texts = [term_text(choices, 1 + choices.below(budget)) for number in range(18)]
        return self.compare(texts, [choices.below(100) for text in texts])

    def ask(self, calls, expected):
        """Sixty calls a line at the most, those that define among them."""
        before = [define(name, text) for name, text in DEFINED]
        room = 60 - len(before)
        for at in range(0, len(calls), room):
            answered = told(*before, *calls[at:at + room])[len(before):]
            self.assertEqual(answered, expected[at:at + room])

    def test_same(self):
        choices = Choices(7)
        calls, expected = [], []
        for number_of_pair in range(1500):
            a = term_text(choices, 1 + choices.below(10))
            b = changed(choices, a)
            calls.append(same(a, b))
            expected.append(model_of_same(a, b, DEFINED))
        self.ask(calls, expected)
        self.assertTrue(200 < expected.count([1]) < 1300)

    def test_number(self):
        choices = Choices(8)
        calls, expected = [], []
        for number_of_text in range(2000):
            text = number_text(choices, 1 + choices.below(12))
            calls.append(number(text, STEPS))
            expected.append(model_of_number(text, DEFINED))
        self.ask(calls, expected)
        self.assertTrue({-8, -4, 0, 1, 2, 3, 4} <= {answer[0] for answer in expected})

    def test_names(self):
        choices = Choices(9)
        calls, expected = [], []
        for number_of_text in range(1500):
            text = term_text(choices, 1 + choices.below(20))
            most = choices.below(16)
            calls.append(names(text, most))
            expected.append(model_of_names(text, DEFINED, most))
        self.ask(calls, expected)
        self.assertTrue({-6, 0, 1, 3, 5, 7} <= {answer[0] for answer in expected})

    def test_small_terms(self):
        for seed in range(100):
            self.compare_chosen(seed, 12)

    def test_larger_terms(self):
        seen = []
        for seed in range(1000, 1060):
            seen += self.compare_chosen(seed, 40)
        self.assertTrue({-4, -6} <= set(seen))
        self.assertTrue(max(seen) > 30)

    def test_growing_terms(self):
        parts = [" ".join(["x"] * count) for count in (5, 9, 12, 20, 30, 44)]
        texts = ["(\\x." + row + ") (\\x." + row + ")" for row in parts]
        self.assertEqual(self.compare(texts, [9] * len(texts)), [-4] + [-5] * 5)


if __name__ == "__main__":
    unittest.main()
