"""Working terms out, step by step."""

from functionterms.nodes import APPLICATION, BOUND, FUNCTION
from functionterms.nodes import make_application, make_function, make_outer

MOST_SIZE = 4096
MOST_STEPS = 100000

APPLIED_TO = 0
ARGUMENT_OF = 1
IN_FUNCTION = 2


# What was built for the term's parts stands last in the list.
def put_together(term, built):
    last = built.pop()
    if term.kind == FUNCTION:
        return make_function(last)
    return make_application(built.pop(), last)


# The argument holds no BOUND name of a function around it, so it means the same at every depth. What doesn't reach
# as far as the function's name is taken over whole, which keeps a step as small as what it changes.
def put_in(body, argument):
    todo = [(body, 0, False)]
    built = []
    while todo:
        entry = todo.pop()
        term = entry[0]
        depth = entry[1]
        if entry[2]:
            built.append(put_together(term, built))
        elif term.reach <= depth:
            built.append(term)
        elif term.kind == BOUND:
            built.append(argument)
        elif term.kind == FUNCTION:
            todo.append((term, depth, True))
            todo.append((term.first, depth + 1, False))
        else:
            todo.append((term, depth, True))
            todo.append((term.second, depth, False))
            todo.append((term.first, depth, False))
    return built.pop()


# A term that is worked out, and the place that the work has come to.
#
# All that begins before the place is normal for good: a step changes what is at the place alone. So the search
# for the next step goes on from there. A function that the place goes into gets an OUTER name for its own; so
# what stands at the place never holds a BOUND name of a function around it.
#
# around: what stands around the place, the innermost last: pairs of APPLIED_TO and the argument, ARGUMENT_OF and
# what is applied, IN_FUNCTION and None.
class Work:
    def __init__(self, term):
        self.place = term
        self.around = []
        self.level = 0
        self.size = term.size
        self.steps = 0
        self.finished = False

    # Goes to the next place where a function is applied; if there is none, the work is finished.
    def find_step(self):
        while not self.finished:
            self.go_to_first_part()
            if self.place.kind != FUNCTION:
                self.go_on()
            elif self.around and self.around[-1][0] == APPLIED_TO:
                return True
            else:
                self.enter_function()
        return False

    def go_to_first_part(self):
        while self.place.kind == APPLICATION:
            self.around.append((APPLIED_TO, self.place.second))
            self.place = self.place.first

    def enter_function(self):
        self.place = put_in(self.place.first, make_outer(self.level))
        self.around.append((IN_FUNCTION, None))
        self.level += 1

    # From what is normal to the next argument behind it; if there is none, to the whole term.
    def go_on(self):
        while self.around:
            surrounding = self.around.pop()
            if surrounding[0] == APPLIED_TO:
                self.around.append((ARGUMENT_OF, self.place))
                self.place = surrounding[1]
                return
            if surrounding[0] == ARGUMENT_OF:
                self.place = make_application(surrounding[1], self.place)
            else:
                self.place = make_function(self.place)
                self.level -= 1
        self.finished = True

    def make_step(self):
        argument = self.around.pop()[1]
        before = self.place.size + argument.size + 1
        self.place = put_in(self.place.first, argument)
        self.size += self.place.size - before
        self.steps += 1


# The work on a term, ended: finished (its place is then the normal term), too large, or out of steps.
def work_out(term, steps):
    allowed = min(steps, MOST_STEPS)
    work = Work(term)
    while work.size <= MOST_SIZE and work.find_step() and work.steps < allowed:
        work.make_step()
    return work
