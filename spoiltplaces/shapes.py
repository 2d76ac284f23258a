"""The inputs of a test's shapes, and values as numbers tell them."""

from spoiltplaces.operations import LONGEST, MODULUS, is_list


def short_lists():
    lists = [()]
    for first in range(3):
        lists.append((first,))
    for first in range(3):
        for second in range(3):
            lists.append((first, second))
    return lists


def values_of(shape):
    if shape == "n":
        return [0, 1, 2, 3, 4]
    if shape == "b":
        return [0, 1]
    return short_lists()


# By the sum of both places, then by the first one's.
def pairs_of(firsts, seconds):
    pairs = []
    for total in range(len(firsts) + len(seconds) - 1):
        for place in range(len(firsts)):
            other = total - place
            if 0 <= other < len(seconds):
                pairs.append([firsts[place], seconds[other]])
    return pairs


# A test's inputs in order, each the list of what's handed over.
def inputs_of(shapes):
    firsts = values_of(shapes[0])
    if len(shapes) == 1:
        return [[value] for value in firsts]
    return pairs_of(firsts, values_of(shapes[1]))


def told(value):
    if is_list(value):
        return [1, len(value)] + list(value)
    return [0, value]


# How many numbers at the beginning tell a value of this shape; 0 if they tell none.
def length_told(numbers, shape):
    if len(numbers) < 2:
        return 0
    if shape != "l":
        return 2 if numbers[0] == 0 and numbers[1] < MODULUS else 0
    behind = 2 + numbers[1]
    if numbers[0] != 1 or numbers[1] > LONGEST or len(numbers) < behind:
        return 0
    return behind if all([number < MODULUS for number in numbers[2:behind]]) else 0


# None if the numbers don't tell just one value of each shape.
def read_values(numbers, shapes):
    given = []
    rest = numbers
    for shape in shapes:
        behind = length_told(rest, shape)
        if behind == 0:
            return None
        given.append(tuple(rest[2:behind]) if shape == "l" else rest[1])
        rest = rest[behind:]
    return given if rest == [] else None
