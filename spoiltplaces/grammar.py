"""Reads a text: the program that it tells, or its first row at fault."""

from spoiltplaces.program import AHEAD, CALL, CHOICE, HANDED, NUMBER, OPERATION
from spoiltplaces.program import Function, Place, Program, Test, Word
from spoiltplaces.signs import PARTS, is_name, is_number, rows_of

NO_FAULT = 0
NO_ROW = 1
NO_NAME = 2
NO_MEANING = 3
NO_EXPRESSION = 4
TOO_MUCH = 5

MOST_FUNCTIONS = 8
MOST_TESTS = 4
MOST_PLACES = 30
MOST_TEST_WORDS = 20

ARGUMENTS = ("a", "b", "c")


def are_shapes(word):
    return len(word) in (1, 2) and all([shape in "nlb" for shape in word])


def is_row(words):
    if len(words) < AHEAD or words[3] != "=":
        return False
    if words[0] == "fun":
        return words[2] in ("0", "1", "2", "3")
    return words[0] == "test" and are_shapes(words[2])


# None if the word means nothing where so many are handed over and these functions are told.
def meaning(word, many, functions):
    if is_number(word):
        return Word(NUMBER, int(word), 0)
    if word in ARGUMENTS[:many]:
        return Word(HANDED, ARGUMENTS.index(word), 0)
    if word in ("if", "unless"):
        return Word(CHOICE, word, PARTS[word])
    if word in PARTS:
        return Word(OPERATION, word, PARTS[word])
    if word in functions:
        return Word(CALL, functions[word].start, functions[word].many)
    return None


# Tells each word where its parts begin, and answers whether the words are just one expression. They are
# gone through from the end on: what waits is the expressions that begin behind a word, the nearest last.
def join_parts(expression, start):
    waiting = []
    for k in range(len(expression) - 1, -1, -1):
        word = expression[k]
        if len(waiting) < word.many:
            return False
        for part in range(word.many):
            word.parts.append(waiting.pop())
        waiting.append(start + k)
    return len(waiting) == 1


def is_too_much(program, words):
    many = len(words) - AHEAD
    if words[0] == "fun":
        return len(program.functions) == MOST_FUNCTIONS or len(program.places) + many > MOST_PLACES
    return len(program.tests) == MOST_TESTS or many > MOST_TEST_WORDS


# A function may name itself, so it is known in its own row ahead of being the program's.
def functions_known(program, words):
    known = dict(program.functions)
    if words[0] == "fun":
        known[words[1]] = Function(tuple(words), len(program.code))
    return known


def add_function(program, function, length):
    number = len(program.functions)
    program.functions[function.row[1]] = function
    for which in range(length):
        program.places.append(Place(function.start + which, number, which, function.many))


def add_row(program, words, expression):
    start = len(program.code)
    program.taken[words[1]] = True
    program.code.extend(expression)
    if words[0] == "fun":
        add_function(program, Function(tuple(words), start), len(expression))
    else:
        program.tests.append(Test(tuple(words), start))


# Takes a row into the program, or answers its fault and leaves the program as it was.
def read_row(program, words):
    if not is_row(words):
        return NO_ROW
    if not is_name(words[1]) or words[1] in program.taken:
        return NO_NAME
    many = int(words[2]) if words[0] == "fun" else len(words[2])
    known = functions_known(program, words)
    expression = [meaning(word, many, known) for word in words[AHEAD:]]
    if None in expression:
        return NO_MEANING
    if not join_parts(expression, len(program.code)):
        return NO_EXPRESSION
    if is_too_much(program, words):
        return TOO_MUCH
    add_row(program, words, expression)
    return NO_FAULT


# Answers the program and 0, or None and the refusal.
def read_text(numbers):
    program = Program()
    for k, words in enumerate(rows_of(numbers)):
        if words != []:
            fault = read_row(program, words)
            if fault != NO_FAULT:
                return (None, -1000 - 10 * k - fault)
    return (program, 0)
