"""The way in: a list of calls, answered one behind another."""

from wholelab.controls import Controls
from wholelab.tubes import Tubes

START_CONTROLS = 0
BATCH = 1
START_TUBES = 10
SAMPLE = 11
TAKE = 12
USE = 13
PUT = 14
AT = 15

# How many whole numbers stand behind a call's number; batch has a row instead.
HANDED_OVER = {0: 2, 2: 0, 10: 0, 11: 2, 12: 2, 13: 2, 14: 3, 15: 2, 16: 1}


def call_end(calls, begin):
    """The place right behind the call that begins there."""
    if calls[begin] == BATCH:
        return begin + 2 + calls[begin + 1]
    return begin + 1 + HANDED_OVER[calls[begin]]


def controls_answer(controls, call):
    if call[0] == START_CONTROLS:
        return [controls.start(call[1], call[2])]
    if call[0] == BATCH:
        return [controls.batch(call[2:])]
    return [controls.how_many()]


def tubes_answer(tubes, call):
    if call[0] == START_TUBES:
        return [tubes.start()]
    if call[0] == SAMPLE:
        return [tubes.sample(call[1], call[2])]
    if call[0] == TAKE:
        return [tubes.take(call[1], call[2])]
    if call[0] == USE:
        return [tubes.use(call[1], call[2])]
    if call[0] == PUT:
        return [tubes.put(call[1], call[2], call[3])]
    if call[0] == AT:
        return [tubes.at(call[1], call[2])]
    return tubes.of(call[1])


def answers(calls):
    """For each call how many numbers are answered, and these, all in one list."""
    controls = Controls()
    tubes = Tubes()
    answered = []
    begin = 0
    while begin < len(calls):
        end = call_end(calls, begin)
        call = calls[begin:end]
        if call[0] < START_TUBES:
            answer = controls_answer(controls, call)
        else:
            answer = tubes_answer(tubes, call)
        answered.append(len(answer))
        answered.extend(answer)
        begin = end
    return answered
