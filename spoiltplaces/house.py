"""A house: the program that is held, and what the calls answer about it."""

from spoiltplaces.grammar import read_text
from spoiltplaces.program import Program
from spoiltplaces.reasons import NONE
from spoiltplaces.running import run_test
from spoiltplaces.shapes import inputs_of, read_values, told

MOST_BYTES = 600
HIGHEST_BYTE = 255


# None if the test holds; else how many inputs are ahead of the least one, that one, and why.
def least_failing(program, test):
    for ahead, handed in enumerate(inputs_of(test.shapes)):
        run = run_test(program, test, handed)
        if run.why != NONE or run.value() != 1:
            return (ahead, handed, run.why)
    return None


# Each call gives back the list of the numbers that are answered.
class House:
    def __init__(self):
        self.program = Program()

    def has_test(self, k):
        return k < len(self.program.tests)

    def write(self, numbers):
        if len(numbers) > MOST_BYTES or any([byte > HIGHEST_BYTE for byte in numbers]):
            return [-1]
        found = read_text(numbers)
        program = found[0]
        if program is None:
            return [found[1]]
        self.program = program
        return [len(program.functions), len(program.tests), len(program.places)]

    def test(self, k):
        if not self.has_test(k):
            return [-2]
        test = self.program.tests[k]
        failing = least_failing(self.program, test)
        if failing is None:
            return [1, len(inputs_of(test.shapes))]
        answer = [0, failing[2], failing[0]]
        for value in failing[1]:
            answer.extend(told(value))
        return answer

    def all_tests(self):
        marks = [1 if least_failing(self.program, test) is None else 0 for test in self.program.tests]
        return [sum(marks)] + marks

    def run(self, k, numbers):
        if not self.has_test(k):
            return [-2]
        test = self.program.tests[k]
        given = read_values(numbers, test.shapes)
        if given is None:
            return [-1]
        run = run_test(self.program, test, given)
        if run.why != NONE:
            return [0, run.steps, run.why]
        return [1, run.steps] + told(run.value())

    # Every input is gone through, those behind the least failing one too.
    def reach(self, k):
        if not self.has_test(k):
            return [-2]
        test = self.program.tests[k]
        reached = {}
        for handed in inputs_of(test.shapes):
            reached.update(run_test(self.program, test, handed).reached)
        places = [place for place, position in enumerate(self.program.places) if position in reached]
        return [len(places)] + places
