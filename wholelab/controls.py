"""Part 1: a control, and the rules that its batches are held to."""

from wholelab.refusals import NOT_AS_TOLD

FARTHEST_MEAN = 1000000000
WIDEST_SPREAD = 1000000
MOST_VALUES = 8
MOST_COUNTED = 1000000
LOOKED_BACK = 9


def one_sided(offsets, many, bound):
    """Whether the last so many are off by more than the bound, all on one side."""
    if len(offsets) < many:
        return False
    last = offsets[len(offsets) - many:]
    return min(last) > bound or max(last) < -bound


def broken_in_a_row(offsets, spread):
    """The sum of the rules 1, 2, 8 and 16 that are broken at the last offset."""
    broken = 0
    if one_sided(offsets, 1, 3 * spread):
        broken = broken + 1
    if one_sided(offsets, 2, 2 * spread):
        broken = broken + 2
    if one_sided(offsets, 4, spread):
        broken = broken + 8
    if one_sided(offsets, 10, 0):
        broken = broken + 16
    return broken


def far_apart(offsets, bound):
    # One of the two comes behind the other, so which one does need not be asked.
    return max(offsets) > bound and min(offsets) < -bound


def broken_rules(before, batch, spread):
    """The sum of the rules that a batch of offsets breaks, behind those before it."""
    offsets = list(before)
    broken = 0
    for offset in batch:
        offsets.append(offset)
        # A rule that is broken at several values is told once.
        broken = broken | broken_in_a_row(offsets, spread)
    # Rule 4 looks at this batch alone, whatever came before it.
    if far_apart(batch, 2 * spread):
        broken = broken | 4
    return broken


class Controls:
    """One control, with how many values count and how far off the last of them are."""

    def __init__(self):
        self.mean = 0
        self.spread = 1
        self.counted = 0
        self.recent = []

    def start(self, mean, spread):
        if mean < -FARTHEST_MEAN or mean > FARTHEST_MEAN:
            return NOT_AS_TOLD
        if spread < 1 or spread > WIDEST_SPREAD:
            return NOT_AS_TOLD
        self.mean = mean
        self.spread = spread
        self.forget()
        return 0

    def batch(self, values):
        if len(values) < 1 or len(values) > MOST_VALUES:
            return NOT_AS_TOLD
        offsets = [value - self.mean for value in values]
        broken = broken_rules(self.recent, offsets, self.spread)
        if broken == 0:
            self.keep(offsets)
        else:
            self.forget()
        return broken

    def how_many(self):
        return min(self.counted, MOST_COUNTED)

    def keep(self, offsets):
        self.counted = self.counted + len(offsets)
        # No rule looks farther back, so what is older need not be kept.
        self.recent = (self.recent + offsets)[-LOOKED_BACK:]

    def forget(self):
        self.counted = 0
        self.recent = []
