"""Terms as trees. A tree is never changed once it is made, so one tree may stand at many places."""

FREE = 0
BOUND = 1
OUTER = 2
APPLICATION = 3
FUNCTION = 4


# A term with all that stands in it.
#
# kind: FREE, a name that belongs to no function; its label is the name's bytes, as a tuple.
#       BOUND, a name of a function around it; its label tells how many other functions stand between.
#       OUTER, a name of a function that was entered; its label tells in how many others that one stands.
#       APPLICATION, of first to second.
#       FUNCTION, whose term is first.
# size: as the document counts it.
# reach: how many functions, from the innermost outwards, must stand around it for its BOUND names.
class Term:
    def __init__(self, kind, size, reach, label, first, second):
        self.kind = kind
        self.size = size
        self.reach = reach
        self.label = label
        self.first = first
        self.second = second


def make_free(name):
    return Term(FREE, 1, 0, name, None, None)


def make_bound(between):
    return Term(BOUND, 1, between + 1, between, None, None)


def make_outer(level):
    return Term(OUTER, 1, 0, level, None, None)


def make_application(first, second):
    reach = first.reach if first.reach > second.reach else second.reach
    return Term(APPLICATION, first.size + second.size + 1, reach, None, first, second)


def make_function(body):
    reach = body.reach - 1 if body.reach > 0 else 0
    return Term(FUNCTION, body.size + 1, reach, None, body, None)
