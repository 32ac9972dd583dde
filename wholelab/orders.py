"""Part 3: orders, the batches that they are run in, and the results that are given out."""

from wholelab.refusals import ALREADY, BUSY, FULL, NOT_AS_TOLD, NOT_NOW, NO_SUCH, OTHER_PATIENT

MOST_ORDERS = 256
LAST_TEST = 15

WAITS = 0
IN_BATCH = 1
HAS_RESULT = 2
READY = 3
GIVEN_OUT = 4


def leave_batch(order, broken):
    """Lets the order out of a batch that is closed; answers whether it is ready by that."""
    if broken == 0 and order.stage == HAS_RESULT:
        order.stage = READY
        return True
    order.stage = WAITS
    # A result of a batch that was out is gone: it must never be given out.
    order.value = None
    return False


class Order:
    """A test for a patient, how it stands, and its result if it has one."""

    def __init__(self, patient, test):
        self.patient = patient
        self.test = test
        self.stage = WAITS
        self.value = None


class Orders:
    """All orders, each at its number; of each test that has a batch open, the orders in it."""

    def __init__(self):
        self.orders = []
        self.batches = {}

    def start(self):
        self.orders = []
        self.batches = {}
        return 0

    def order(self, patient, test):
        if test > LAST_TEST:
            return NOT_AS_TOLD
        if len(self.orders) >= MOST_ORDERS:
            return FULL
        self.orders.append(Order(patient, test))
        return len(self.orders) - 1

    def begin_batch(self, test):
        if test > LAST_TEST:
            return NOT_AS_TOLD
        if test in self.batches:
            return BUSY
        self.batches[test] = []
        return 0

    def run(self, number, patient):
        if not self.has(number):
            return NO_SUCH
        order = self.orders[number]
        if order.patient != patient:
            return OTHER_PATIENT
        if order.stage != WAITS:
            return BUSY
        if order.test not in self.batches:
            return NOT_NOW
        order.stage = IN_BATCH
        self.batches[order.test].append(order)
        return 0

    def result(self, number, value):
        if not self.has(number):
            return NO_SUCH
        order = self.orders[number]
        if order.stage != IN_BATCH:
            return NOT_NOW
        order.stage = HAS_RESULT
        order.value = value
        return 0

    def close(self, test, broken):
        if test > LAST_TEST:
            return NOT_AS_TOLD
        if test not in self.batches:
            return NOT_NOW
        batch = self.batches.pop(test)
        ready = 0
        for order in batch:
            if leave_batch(order, broken):
                ready = ready + 1
        return ready

    def give(self, number):
        """A list, as this is two numbers where it is no refusal."""
        if not self.has(number):
            return [NO_SUCH]
        order = self.orders[number]
        if order.stage == GIVEN_OUT:
            return [ALREADY]
        if order.stage != READY:
            return [NOT_NOW]
        order.stage = GIVEN_OUT
        return [0, order.value]

    def state(self, number):
        if not self.has(number):
            return NO_SUCH
        order = self.orders[number]
        return order.stage

    def has(self, number):
        return number < len(self.orders)
