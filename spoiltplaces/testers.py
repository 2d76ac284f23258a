"""The calls on one house, as numbers lying one behind another, and their answers."""

from spoiltplaces.house import House

WRITE = 0
TEST = 1
ALL = 2
RUN = 3
REACH = 4
PLACE = 5
SEES = 6
UNSEEN = 7
FEWEST = 8

# For each call, from write to touched: how many numbers stand ahead of its row's (its own number, its
# whole numbers, the row's count).
HEADS = (2, 2, 1, 3, 2, 2, 2, 1, 1, 1)


def call_end(calls, at):
    behind = at + HEADS[calls[at]]
    if calls[at] in (WRITE, RUN):
        return behind + calls[behind - 1]
    return behind


def answer_call(house, call):
    if call[0] == WRITE:
        return house.write(call[2:])
    if call[0] == TEST:
        return house.test(call[1])
    if call[0] == ALL:
        return house.all_tests()
    if call[0] == RUN:
        return house.run(call[1], call[3:])
    if call[0] == REACH:
        return house.reach(call[1])
    if call[0] == PLACE:
        return house.place(call[1])
    if call[0] == SEES:
        return house.sees(call[1])
    if call[0] == UNSEEN:
        return house.unseen()
    if call[0] == FEWEST:
        return house.fewest()
    return house.touched()


def answers(calls):
    given = []
    house = House()
    at = 0
    while at < len(calls):
        behind = call_end(calls, at)
        answer = answer_call(house, calls[at:behind])
        given.append(len(answer))
        given.extend(answer)
        at = behind
    return given
