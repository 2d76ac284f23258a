"""Which tests see which places, and the fewest tests that see as much as all of them."""

from spoiltplaces.spoiling import can_be_spoilt, spoilt_code
from spoiltplaces.trials import holds


def holding_tests(program):
    return [k for k, test in enumerate(program.tests) if holds(program.code, test)]


# Those of the tests that hold which don't once the place is spoilt.
def failing_spoilt(program, holding, place):
    code = spoilt_code(program, place)
    return [k for k in holding if not holds(code, program.tests[k])]


# The tests that see a place, rising. Only of a place that can be spoilt.
def sight_of(program, place):
    return failing_spoilt(program, holding_tests(program), place)


# For the number of each place that can be spoilt, rising, the tests that see it.
def all_sights(program):
    holding = holding_tests(program)
    sights = {}
    for i, place in enumerate(program.places):
        if can_be_spoilt(program, place):
            sights[i] = failing_spoilt(program, holding, place)
    return sights


# All rows of one test more, in order if these are.
def longer_rows(rows, many):
    longer = []
    for row in rows:
        behind = row[-1] + 1 if row != [] else 0
        for k in range(behind, many):
            longer.append(row + [k])
    return longer


def see_all(row, seen):
    return all([any([k in row for k in sight]) for sight in seen])


# The row of all tests sees all that is seen, so one is found.
def fewest_tests(program):
    seen = [sight for sight in all_sights(program).values() if sight != []]
    rows = [[]]
    enough = [row for row in rows if see_all(row, seen)]
    while enough == []:
        rows = longer_rows(rows, len(program.tests))
        enough = [row for row in rows if see_all(row, seen)]
    return enough[0]
