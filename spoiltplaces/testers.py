"""The calls on one house, as numbers lying one behind another, and their answers."""

from spoiltplaces.house import House

WRITE = 0
TEST = 1
ALL = 2
RUN = 3

# For each call, from write to reach: how many numbers stand ahead of its row's (its own number, its whole
# numbers, the row's count).
HEADS = (2, 2, 1, 3, 2)


def call_end(calls, at):
    behind = at + HEADS[calls[at]]
    if calls[at] in (WRITE, RUN):
        return behind + calls[behind - 1]
    return behind


def answer_call(house, call):
    if call[0] == WRITE:
        return house.write(call[2:])
    if call[0] == TEST:
        return house.test(call[1])
    if call[0] == ALL:
        return house.all_tests()
    if call[0] == RUN:
        return house.run(call[1], call[3:])
    return house.reach(call[1])


def answers(calls):
    given = []
    house = House()
    at = 0
    while at < len(calls):
        behind = call_end(calls, at)
        answer = answer_call(house, calls[at:behind])
        given.append(len(answer))
        given.extend(answer)
        at = behind
    return given
