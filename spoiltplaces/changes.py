"""Which tests a change from one program to the next can touch."""

from spoiltplaces.program import AHEAD


# The rows of the functions that a test comes by. Names are looked for in expressions alone: shapes may
# read like a function's name.
def rows_come_by(program, test):
    met = {}
    waiting = [test.row]
    while waiting != []:
        row = waiting.pop()
        for word in row[AHEAD:]:
            if word in program.functions and word not in met:
                met[word] = program.functions[word].row
                waiting.append(met[word])
    return list(met.values())


# Tests and functions in one: their rows begin with other words.
def rows_told(program):
    told = {}
    for function in program.functions.values():
        told[function.row] = True
    for test in program.tests:
        told[test.row] = True
    return told


def touched_tests(earlier, program):
    told = rows_told(earlier)
    touched = []
    for k, test in enumerate(program.tests):
        rows = [test.row] + rows_come_by(program, test)
        if any([row not in told for row in rows]):
            touched.append(k)
    return touched
