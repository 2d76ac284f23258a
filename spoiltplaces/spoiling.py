"""How a word is spoilt, and the code of a program that is spoilt at a place."""

from spoiltplaces.program import CHOICE, HANDED, NUMBER, OPERATION, Word

# Each has as many parts as the one that it becomes.
BECOMES = {
    "add": "sub",
    "sub": "add",
    "mul": "add",
    "less": "same",
    "same": "less",
    "if": "unless",
    "unless": "if",
}

NUMBERS = 100


# What the word is about once it is spoilt, where so many are handed over; None if it can't be.
def spoilt_what(word, many):
    if word.kind == NUMBER:
        return (word.what + 1) % NUMBERS
    if word.kind == HANDED and many > 1:
        return (word.what + 1) % many
    if word.kind in (OPERATION, CHOICE):
        return BECOMES.get(word.what)
    return None


def can_be_spoilt(program, place):
    return spoilt_what(program.code[place.position], place.many) is not None


# A code of its own: the program's stays as it is.
def spoilt_code(program, place):
    word = program.code[place.position]
    spoilt = Word(word.kind, spoilt_what(word, place.many), word.many)
    spoilt.parts.extend(word.parts)
    code = list(program.code)
    code[place.position] = spoilt
    return code
