"""The way in: a list of calls, answered one behind another."""

from wholelab.controls import Controls
from wholelab.orders import Orders
from wholelab.tubes import Tubes

START_CONTROLS = 0
BATCH = 1
START_TUBES = 10
SAMPLE = 11
TAKE = 12
USE = 13
PUT = 14
AT = 15
OF = 16
START_ORDERS = 20
ORDER = 21
BEGIN_BATCH = 22
RUN = 23
RESULT = 24
CLOSE = 25
GIVE = 26

# How many whole numbers stand behind a call's number; batch has a row instead.
HANDED_OVER = {
    0: 2, 2: 0,
    10: 0, 11: 2, 12: 2, 13: 2, 14: 3, 15: 2, 16: 1, 17: 1,
    20: 0, 21: 2, 22: 1, 23: 2, 24: 2, 25: 2, 26: 1, 27: 1,
}


def call_end(calls, begin):
    """The place right behind the call that begins there."""
    if calls[begin] == BATCH:
        return begin + 2 + calls[begin + 1]
    return begin + 1 + HANDED_OVER[calls[begin]]


def controls_answer(controls, call):
    if call[0] == START_CONTROLS:
        return [controls.start(call[1], call[2])]
    if call[0] == BATCH:
        return [controls.batch(call[2:])]
    return [controls.how_many()]


def tubes_answer(tubes, call):
    if call[0] == START_TUBES:
        return [tubes.start()]
    if call[0] == SAMPLE:
        return [tubes.sample(call[1], call[2])]
    if call[0] == TAKE:
        return [tubes.take(call[1], call[2])]
    if call[0] == USE:
        return [tubes.use(call[1], call[2])]
    if call[0] == PUT:
        return [tubes.put(call[1], call[2], call[3])]
    if call[0] == AT:
        return [tubes.at(call[1], call[2])]
    if call[0] == OF:
        return tubes.of(call[1])
    return tubes.sum_of(call[1])


def orders_answer(orders, call):
    if call[0] == START_ORDERS:
        return [orders.start()]
    if call[0] == ORDER:
        return [orders.order(call[1], call[2])]
    if call[0] == BEGIN_BATCH:
        return [orders.begin_batch(call[1])]
    if call[0] == RUN:
        return [orders.run(call[1], call[2])]
    if call[0] == RESULT:
        return [orders.result(call[1], call[2])]
    if call[0] == CLOSE:
        return [orders.close(call[1], call[2])]
    if call[0] == GIVE:
        return orders.give(call[1])
    return [orders.state(call[1])]


def answers(calls):
    """For each call how many numbers are answered, and these, all in one list."""
    controls = Controls()
    tubes = Tubes()
    orders = Orders()
    answered = []
    begin = 0
    while begin < len(calls):
        end = call_end(calls, begin)
        call = calls[begin:end]
        if call[0] < START_TUBES:
            answer = controls_answer(controls, call)
        elif call[0] < START_ORDERS:
            answer = tubes_answer(tubes, call)
        else:
            answer = orders_answer(orders, call)
        answered.append(len(answer))
        answered.extend(answer)
        begin = end
    return answered
