"""Lists of calls, written by the calls' names, and their answers, call by call."""

from wholelab.desk import answers


def start_controls(mean, spread):
    return [0, mean, spread]


def batch(*values):
    return [1, len(values), *values]


def count():
    return [2]


def start_tubes():
    return [10]


def sample(patient, volume):
    return [11, patient, volume]


def take(tube, volume):
    return [12, tube, volume]


def use(tube, volume):
    return [13, tube, volume]


def put(tube, rack, place):
    return [14, tube, rack, place]


def at(rack, place):
    return [15, rack, place]


def of(tube):
    return [16, tube]


def sum_of(tube):
    return [17, tube]


def start_orders():
    return [20]


def order(patient, test):
    return [21, patient, test]


def open_batch(test):
    return [22, test]


def run(number, patient):
    return [23, number, patient]


def result(number, value):
    return [24, number, value]


def close(test, broken):
    return [25, test, broken]


def give(number):
    return [26, number]


def state(number):
    return [27, number]


def flat(calls):
    return [number for call in calls for number in call]


def split_answers(answered):
    """One number for each call; a tuple where more than one number is answered."""
    split = []
    begin = 0
    while begin < len(answered):
        end = begin + 1 + answered[begin]
        numbers = answered[begin + 1:end]
        if len(numbers) != answered[begin] or not numbers:
            raise ValueError(f"no whole answer at {begin}: {answered}")
        split.append(numbers[0] if len(numbers) == 1 else tuple(numbers))
        begin = end
    return split


def ask(*calls):
    return split_answers(answers(flat(calls)))
