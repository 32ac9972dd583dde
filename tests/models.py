"""The document's words again, in another way than the program's: slow, and nothing left out of what came."""


class ControlsModel:
    """Keeps every value that counts, and asks each rule of each value as it is told."""

    def start(self, mean, spread):
        if not -10 ** 9 <= mean <= 10 ** 9 or not 1 <= spread <= 10 ** 6:
            return -22
        self.mean, self.spread, self.values = mean, spread, []
        return 0

    def far(self, value, k):
        return abs(value - self.mean) > k * self.spread

    def side(self, value):
        return "above" if value > self.mean else "below" if value < self.mean else "none"

    def one_side(self, values):
        sides = {self.side(value) for value in values}
        return len(sides) == 1 and sides != {"none"}

    def row(self, values, k):
        return all(self.far(value, k) for value in values) and self.one_side(values)

    def broken_at(self, line, first, i):
        broken = set()
        if self.far(line[i], 3):
            broken.add(1)
        if i >= 1 and self.row(line[i - 1:i + 1], 2):
            broken.add(2)
        for j in range(first, i):
            if self.far(line[i], 2) and self.far(line[j], 2) and self.side(line[i]) != self.side(line[j]):
                broken.add(4)
        if i >= 3 and self.row(line[i - 3:i + 1], 1):
            broken.add(8)
        if i >= 9 and self.one_side(line[i - 9:i + 1]):
            broken.add(16)
        return broken

    def batch(self, *values):
        if not 1 <= len(values) <= 8:
            return -22
        line = self.values + list(values)
        broken = set()
        for i in range(len(self.values), len(line)):
            broken |= self.broken_at(line, len(self.values), i)
        self.values = [] if broken else line
        return sum(broken)

    def count(self):
        return min(len(self.values), 10 ** 6)


class TubesModel:
    """Keeps what came and where it went; what is asked is reckoned from that each time."""

    def start(self):
        self.came = []
        self.drawn = []
        self.spent = []
        self.places = {}
        return 0

    def left(self, tube):
        return self.came[tube][1] - sum(volume for which, volume in self.drawn if which == tube)

    def whence(self, tube):
        """The tubes from this one back to its sample."""
        line = [tube]
        while self.came[line[-1]][0] == "tube":
            line.append(self.came[line[-1]][2])
        return line

    def sample(self, patient, volume):
        if volume == 0:
            return -22
        if len(self.came) == 256:
            return -28
        self.came.append(("sample", volume, patient))
        return len(self.came) - 1

    def cannot_draw(self, tube, volume):
        if volume == 0:
            return -22
        if tube >= len(self.came):
            return -2
        return -61 if self.left(tube) < volume else None

    def take(self, tube, volume):
        refusal = self.cannot_draw(tube, volume)
        if refusal is not None:
            return refusal
        if len(self.came) == 256:
            return -28
        self.came.append(("tube", volume, tube))
        self.drawn.append((tube, volume))
        return len(self.came) - 1

    def use(self, tube, volume):
        refusal = self.cannot_draw(tube, volume)
        if refusal is not None:
            return refusal
        self.drawn.append((tube, volume))
        self.spent.append((tube, volume))
        return self.left(tube) % 2 ** 31

    def put(self, tube, rack, place):
        if rack > 15 or place > 95:
            return -22
        if tube >= len(self.came):
            return -2
        if self.places.get((rack, place), tube) != tube:
            return -17
        self.places = {where: other for where, other in self.places.items() if other != tube}
        self.places[rack, place] = tube
        return 0

    def at(self, rack, place):
        if rack > 15 or place > 95:
            return -22
        return self.places.get((rack, place), -2)

    def of(self, tube):
        if tube >= len(self.came):
            return -2
        line = self.whence(tube)
        return 0, self.came[line[-1]][2], line[-1], self.left(tube), len(line) - 1

    def sum_of(self, tube):
        if tube >= len(self.came) or self.came[tube][0] != "sample":
            return -2
        own = {other for other in range(len(self.came)) if self.whence(other)[-1] == tube}
        filled = sum(self.came[other][1] for other in own)
        drawn = sum(volume for which, volume in self.drawn if which in own)
        return len(own), filled - drawn, sum(volume for which, volume in self.spent if which in own)


class OrdersModel:
    """Keeps every batch there was, who was run in it and what came of it; how an order stands is reckoned from that."""

    def start(self):
        self.orders = []
        self.batches = []
        self.given = []
        return 0

    def order(self, patient, test):
        if test > 15:
            return -22
        if len(self.orders) == 256:
            return -28
        self.orders.append((patient, test))
        return len(self.orders) - 1

    def open_one(self, test):
        still = [each for each in self.batches if each["test"] == test and each["broken"] is None]
        return still[0] if still else None

    def open_batch(self, test):
        if test > 15:
            return -22
        if self.open_one(test) is not None:
            return -16
        self.batches.append({"test": test, "broken": None, "results": {}})
        return 0

    def last_batch(self, number):
        mine = [each for each in self.batches if number in each["results"]]
        return mine[-1] if mine else None

    def state(self, number):
        if number >= len(self.orders):
            return -2
        if number in self.given:
            return 4
        last = self.last_batch(number)
        if last is None:
            return 0
        has_result = last["results"][number] is not None
        if last["broken"] is None:
            return 2 if has_result else 1
        return 3 if last["broken"] == 0 and has_result else 0

    def run(self, number, patient):
        if number >= len(self.orders):
            return -2
        if self.orders[number][0] != patient:
            return -71
        if self.state(number) != 0:
            return -16
        now = self.open_one(self.orders[number][1])
        if now is None:
            return -11
        now["results"][number] = None
        return 0

    def result(self, number, value):
        if number >= len(self.orders):
            return -2
        if self.state(number) != 1:
            return -11
        self.last_batch(number)["results"][number] = value
        return 0

    def close(self, test, broken):
        if test > 15:
            return -22
        now = self.open_one(test)
        if now is None:
            return -11
        now["broken"] = broken
        return sum(self.state(number) == 3 for number in now["results"])

    def give(self, number):
        if number >= len(self.orders):
            return -2
        if number in self.given:
            return -17
        if self.state(number) != 3:
            return -11
        self.given.append(number)
        return 0, self.last_batch(number)["results"][number]
