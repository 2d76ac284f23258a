"""A house: the program that is held, and what the calls answer about it."""

from spoiltplaces.changes import touched_tests
from spoiltplaces.grammar import read_text
from spoiltplaces.program import Program
from spoiltplaces.reasons import NONE
from spoiltplaces.running import run_test
from spoiltplaces.shapes import inputs_of, read_values, told
from spoiltplaces.sights import all_sights, fewest_tests, sight_of
from spoiltplaces.spoiling import can_be_spoilt
from spoiltplaces.trials import holds, least_failing, reached_by

MOST_BYTES = 600
HIGHEST_BYTE = 255


# How many they are, and they.
def counted(numbers):
    return [len(numbers)] + numbers


# Each call gives back the list of the numbers that are answered. What was held ahead of the program is
# in earlier: None as long as no program was written.
class House:
    def __init__(self):
        self.program = Program()
        self.earlier = None

    def has_test(self, k):
        return k < len(self.program.tests)

    def has_place(self, i):
        return i < len(self.program.places)

    def write(self, numbers):
        if len(numbers) > MOST_BYTES or any([byte > HIGHEST_BYTE for byte in numbers]):
            return [-1]
        found = read_text(numbers)
        program = found[0]
        if program is None:
            return [found[1]]
        self.earlier = self.program
        self.program = program
        return [len(program.functions), len(program.tests), len(program.places)]

    def test(self, k):
        if not self.has_test(k):
            return [-2]
        test = self.program.tests[k]
        failing = least_failing(self.program.code, test)
        if failing is None:
            return [1, len(inputs_of(test.shapes))]
        answer = [0, failing[2], failing[0]]
        for value in failing[1]:
            answer.extend(told(value))
        return answer

    def all_tests(self):
        marks = [1 if holds(self.program.code, test) else 0 for test in self.program.tests]
        return [sum(marks)] + marks

    def run(self, k, numbers):
        if not self.has_test(k):
            return [-2]
        test = self.program.tests[k]
        given = read_values(numbers, test.shapes)
        if given is None:
            return [-1]
        run = run_test(self.program.code, test, given)
        if run.why != NONE:
            return [0, run.steps, run.why]
        return [1, run.steps] + told(run.value())

    def reach(self, k):
        if not self.has_test(k):
            return [-2]
        reached = reached_by(self.program.code, self.program.tests[k])
        return counted([i for i, place in enumerate(self.program.places) if place.position in reached])

    def place(self, i):
        if not self.has_place(i):
            return [-2]
        place = self.program.places[i]
        return [place.function, place.which, 1 if can_be_spoilt(self.program, place) else 0]

    def sees(self, i):
        if not self.has_place(i):
            return [-2]
        place = self.program.places[i]
        if not can_be_spoilt(self.program, place):
            return [-3]
        return counted(sight_of(self.program, place))

    def unseen(self):
        return counted([i for i, sight in all_sights(self.program).items() if sight == []])

    def fewest(self):
        return counted(fewest_tests(self.program))

    def touched(self):
        if self.earlier is None:
            return [-3]
        return counted(touched_tests(self.earlier, self.program))
