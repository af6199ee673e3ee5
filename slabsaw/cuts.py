"""The calls, read from one list of whole numbers and answered in another."""

from slabsaw.codes import NO_INSTANCE
from slabsaw.saw import Saw

CREATE = 0
ADD_KIND = 1
REMOVE_KIND = 2
SET_VALUE = 3
SET_MAY_TURN = 4
SET_SLAB = 5
MAX_VALUE = 6
MAX_VALUE_OF = 7
BEST_PATTERN = 8
STONE_COUNTS = 9
WASTE_AREA = 10
CHECK_PATTERN = 11
VALUES_FOR_HEIGHT = 12
MAX_VALUE_WITHOUT = 13
MAX_VALUE_IF_VALUE = 14

# How many numbers stand behind the call's own number, for call 0, call 1 and so on up to call 16, describe;
# for check_pattern just the one that tells how long its row is.
PARAMETER_COUNTS = (2, 4, 1, 2, 2, 2, 0, 2, 0, 0, 0, 1, 1, 1, 2, 1, 0)


def answers(calls):
    """For each call, how many numbers it answers, then these numbers."""
    saw = Saw()
    answered = []
    place = 0
    while place < len(calls):
        number = calls[place]
        parameters = parameters_at(calls, place)
        answer = answer_of(saw, number, parameters)
        answered.append(len(answer))
        answered.extend(answer)
        place += 1 + len(parameters)
    return answered


def parameters_at(calls, place):
    """The numbers that are handed in with the call at this place; a row has its length ahead of it."""
    number = calls[place]
    start = place + 1
    end = start + PARAMETER_COUNTS[number]
    if number == CHECK_PATTERN:
        end += calls[start]
    return calls[start:end]


def answer_of(saw, number, parameters):
    """What the call with this number answers."""
    if number == CREATE:
        return saw.create(parameters[0], parameters[1])
    if not saw.exists:
        return [NO_INSTANCE]
    if number <= SET_SLAB:
        return answer_of_change(saw, number, parameters)
    if len(parameters) == 0:
        return answer_of_plain_query(saw, number)
    return answer_of_query(saw, number, parameters)


def answer_of_change(saw, number, parameters):
    """What a call answers that changes the saw's kinds or its slab."""
    if number == ADD_KIND:
        return saw.add_kind(parameters[0], parameters[1], parameters[2], parameters[3])
    if number == REMOVE_KIND:
        return saw.remove_kind(parameters[0])
    if number == SET_VALUE:
        return saw.set_value(parameters[0], parameters[1])
    if number == SET_MAY_TURN:
        return saw.set_may_turn(parameters[0], parameters[1])
    return saw.set_slab(parameters[0], parameters[1])


def answer_of_plain_query(saw, number):
    """What a call answers that changes nothing and with which nothing is handed in."""
    if number == MAX_VALUE:
        return saw.max_value()
    if number == BEST_PATTERN:
        return saw.best_pattern()
    if number == STONE_COUNTS:
        return saw.stone_counts()
    if number == WASTE_AREA:
        return saw.waste_area()
    return saw.describe()


def answer_of_query(saw, number, parameters):
    """What a call answers that changes nothing and with which something is handed in."""
    if number == MAX_VALUE_OF:
        return saw.max_value_of(parameters[0], parameters[1])
    if number == CHECK_PATTERN:
        return saw.check_pattern(parameters[1:])
    if number == VALUES_FOR_HEIGHT:
        return saw.values_for_height(parameters[0])
    if number == MAX_VALUE_WITHOUT:
        return saw.max_value_without(parameters[0])
    if number == MAX_VALUE_IF_VALUE:
        return saw.max_value_if_value(parameters[0], parameters[1])
    return saw.min_height(parameters[0])
