"""Lists of calls, written by the calls' names, and their answers, call by call."""

from wholelab.desk import answers


def start_controls(mean, spread):
    return [0, mean, spread]


def batch(*values):
    return [1, len(values), *values]


def count():
    return [2]


def start_tubes():
    return [10]


def sample(patient, volume):
    return [11, patient, volume]


def take(tube, volume):
    return [12, tube, volume]


def use(tube, volume):
    return [13, tube, volume]


def put(tube, rack, place):
    return [14, tube, rack, place]


def at(rack, place):
    return [15, rack, place]


def of(tube):
    return [16, tube]


def flat(calls):
    return [number for call in calls for number in call]


def split_answers(answered):
    """One number for each call; a tuple where more than one number is answered."""
    split = []
    begin = 0
    while begin < len(answered):
        end = begin + 1 + answered[begin]
        numbers = answered[begin + 1:end]
        if len(numbers) != answered[begin] or not numbers:
            raise ValueError(f"no whole answer at {begin}: {answered}")
        split.append(numbers[0] if len(numbers) == 1 else tuple(numbers))
        begin = end
    return split


def ask(*calls):
    return split_answers(answers(flat(calls)))
