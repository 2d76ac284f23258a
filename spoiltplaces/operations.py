"""What an operation comes to, once its parts are come to.

A list is kept as a tuple of numbers, so that none of its holders can change it. What an operation
answers is a tuple: why it has no value (NONE if it has one), and its value.
"""

from spoiltplaces.reasons import EMPTY, LENGTH, MISFIT, NONE

MODULUS = 1000
LONGEST = 10


def is_list(value):
    return isinstance(value, tuple)


def of_numbers(name, first, second):
    if is_list(first) or is_list(second):
        return (MISFIT, 0)
    if name == "add":
        return (NONE, (first + second) % MODULUS)
    if name == "sub":
        return (NONE, max(first - second, 0))
    if name == "mul":
        return (NONE, (first * second) % MODULUS)
    return (NONE, 1 if first < second else 0)


def cons(first, second):
    if is_list(first) or not is_list(second):
        return (MISFIT, 0)
    if len(second) == LONGEST:
        return (LENGTH, 0)
    return (NONE, (first,) + second)


def of_list(name, value):
    if not is_list(value):
        return (MISFIT, 0)
    if name == "isnil":
        return (NONE, 1 if value == () else 0)
    if value == ():
        return (EMPTY, 0)
    return (NONE, value[0] if name == "head" else value[1:])


def operate(name, parts):
    if name == "nil":
        return (NONE, ())
    if name in ("head", "tail", "isnil"):
        return of_list(name, parts[0])
    if name == "cons":
        return cons(parts[0], parts[1])
    if name == "same":
        return (NONE, 1 if parts[0] == parts[1] else 0)
    return of_numbers(name, parts[0], parts[1])
