"""The calls, read from one list of whole numbers and answered in another."""

from slabsaw.codes import NO_INSTANCE
from slabsaw.saw import Saw

CREATE = 0
ADD_KIND = 1
REMOVE_KIND = 2
SET_VALUE = 3
SET_MAY_TURN = 4
SET_SLAB = 5
MAX_VALUE = 6
MAX_VALUE_OF = 7

# How many numbers stand behind the call's own number, for call 0, call 1 and so on up to call 8, best_pattern.
PARAMETER_COUNTS = (2, 4, 1, 2, 2, 2, 0, 2, 0)


def answers(calls):
    """For each call, how many numbers it answers, then these numbers."""
    saw = Saw()
    answered = []
    place = 0
    while place < len(calls):
        number = calls[place]
        start = place + 1
        place = start + PARAMETER_COUNTS[number]
        answer = answer_of(saw, number, calls[start:place])
        answered.append(len(answer))
        answered.extend(answer)
    return answered


def answer_of(saw, number, parameters):
    """What the call with this number answers."""
    if number == CREATE:
        return saw.create(parameters[0], parameters[1])
    if not saw.exists:
        return [NO_INSTANCE]
    if number <= SET_SLAB:
        return answer_of_change(saw, number, parameters)
    return answer_of_query(saw, number, parameters)


def answer_of_change(saw, number, parameters):
    """What a call answers that changes the saw's kinds or its slab."""
    if number == ADD_KIND:
        return saw.add_kind(parameters[0], parameters[1], parameters[2], parameters[3])
    if number == REMOVE_KIND:
        return saw.remove_kind(parameters[0])
    if number == SET_VALUE:
        return saw.set_value(parameters[0], parameters[1])
    if number == SET_MAY_TURN:
        return saw.set_may_turn(parameters[0], parameters[1])
    return saw.set_slab(parameters[0], parameters[1])


def answer_of_query(saw, number, parameters):
    """What a call answers that changes nothing."""
    if number == MAX_VALUE:
        return saw.max_value()
    if number == MAX_VALUE_OF:
        return saw.max_value_of(parameters[0], parameters[1])
    return saw.best_pattern()
