"""Runs an expression by a loop, with what is still to be done kept in a list."""

from spoiltplaces.operations import is_list, operate
from spoiltplaces.program import CALL, CHOICE, HANDED, NUMBER
from spoiltplaces.reasons import MISFIT, NONE, STEPS

MOST_STEPS = 100


# One run of an expression. What's to be done is told by tuples, the next one last: whether the parts of
# a word are come to already, where the word is, what's handed over there. Positions in the code that it
# came to are in reached.
class Run:
    def __init__(self, code):
        self.code = code
        self.steps = 0
        self.why = NONE
        self.reached = {}
        self.todo = []
        self.results = []

    def go(self, start, handed):
        self.todo.append((False, start, handed))
        while self.todo != [] and self.why == NONE:
            task = self.todo.pop()
            if task[0]:
                self.finish(self.code[task[1]], task[2])
            else:
                self.come_to(task[1], task[2])

    def come_to(self, position, handed):
        if self.steps == MOST_STEPS:
            self.why = STEPS
            return
        self.steps += 1
        self.reached[position] = True
        word = self.code[position]
        if word.kind == NUMBER:
            self.results.append(word.what)
        elif word.kind == HANDED:
            self.results.append(handed[word.what])
        else:
            self.todo.append((True, position, handed))
            self.plan_parts(word, handed)

    # Of if and unless just the first part: which other one is come to isn't known yet.
    def plan_parts(self, word, handed):
        parts = word.parts[:1] if word.kind == CHOICE else word.parts
        for part in reversed(parts):
            self.todo.append((False, part, handed))

    def finish(self, word, handed):
        if word.kind == CHOICE:
            self.choose(word, handed)
        elif word.kind == CALL:
            self.todo.append((False, word.what, self.take(word.many)))
        else:
            outcome = operate(word.what, self.take(word.many))
            self.why = outcome[0]
            self.results.append(outcome[1])

    def choose(self, word, handed):
        first = self.results.pop()
        if is_list(first):
            self.why = MISFIT
            return
        wants_zero = word.what == "unless"
        chosen = 1 if (first == 0) == wants_zero else 2
        self.todo.append((False, word.parts[chosen], handed))

    def take(self, many):
        kept = len(self.results) - many
        taken = self.results[kept:]
        self.results = self.results[:kept]
        return taken

    # Only of a run that has ended with a value.
    def value(self):
        return self.results[0]


def run_test(code, test, handed):
    run = Run(code)
    run.go(test.start, handed)
    return run
