"""What holds of the whole, where what is told to part 3 is what parts 2 and 1 answered."""

import random
import unittest

from tests.ledger import hold_given_out
from tests.lines import (ask, batch, close, give, of, open_batch, order, put, result, run, sample, start_controls,
                         start_orders, start_tubes, state, sum_of, take, use)
from tests.models import ControlsModel

MEAN, SPREAD = 100, 5
TESTS = (0, 7, 15)
# A list has one control: it is this test's; those of the other tests are asked in lists of their own.
OWN_TEST = 7
PATIENTS = (0, 5, 2 ** 32 - 1)


def controls_row(chance):
    """In more often than out, and out by each of the rules now and then."""
    lean = chance.choice((-1, 1, 1, 1))
    width = chance.choice((1, 4, 9, 13, 17, 17))
    return [MEAN + lean * chance.randrange(width + 1) for _ in range(chance.randrange(1, 9))]


class Laboratory:
    """One list that grows call by call, each made from what was answered before it."""

    def __init__(self, chance):
        self.chance = chance
        self.calls = []
        self.answered = []
        self.controls = {test: [start_controls(MEAN, SPREAD)] for test in TESTS}
        self.rows = {test: [] for test in TESTS}
        self.row_at = {}
        self.open_tests = []
        self.came = {}
        self.tubes = 0
        self.patients = []
        for call in (start_controls(MEAN, SPREAD), start_tubes(), start_orders()):
            self.tell(call)

    def tell(self, call):
        self.calls.append(call)
        self.answered.append(ask(*self.calls)[-1])
        return self.answered[-1]

    def some_tube(self):
        return self.chance.randrange(self.tubes + 1)

    def some_order(self, patients=PATIENTS):
        """Mostly one of these patients', and one that has not been there for long; now and then any, or none."""
        fitting = [number for number, patient in enumerate(self.patients) if patient in patients][-12:]
        if fitting and self.chance.random() < 0.85:
            return self.chance.choice(fitting)
        return self.chance.randrange(len(self.patients) + 1)

    def bring(self):
        volume = self.chance.choice((3, 50, 2 ** 32 - 1))
        tube = self.tell(sample(self.chance.choice(PATIENTS), volume))
        self.came[tube] = volume
        self.tubes += 1

    def divide(self):
        self.tubes += self.tell(take(self.some_tube(), self.chance.randrange(6))) >= 0

    def ask_for(self):
        self.patients.append(self.chance.choice(PATIENTS))
        self.tell(order(self.patients[-1], self.chance.choice(TESTS)))

    def begin(self):
        test = self.chance.choice(TESTS)
        if self.tell(open_batch(test)) == 0:
            self.open_tests.append(test)

    def try_out(self):
        tube = self.some_tube()
        known = self.tell(of(tube))
        if known != -2:
            self.tell(run(self.some_order([known[1]]), known[1]))
            self.tell(use(tube, self.chance.choice((1, 1, 2 ** 31))))

    def tell_result(self):
        self.tell(result(self.some_order(), self.chance.randrange(2 ** 32)))

    def measure(self, test, row):
        """What part 1 answers of this test's controls."""
        self.rows[test].append(row)
        if test == OWN_TEST:
            return self.tell(batch(*row))
        self.controls[test].append(batch(*row))
        return ask(*self.controls[test])[-1]

    def end(self):
        if self.open_tests:
            test = self.open_tests.pop(self.chance.randrange(len(self.open_tests)))
            broken = self.measure(test, controls_row(self.chance))
            self.row_at[len(self.calls)] = test, len(self.rows[test]) - 1
            self.tell(close(test, broken))

    def give_out(self):
        self.tell(give(self.some_order()))

    def look(self):
        self.tell(sum_of(self.some_tube()))

    def stand(self):
        self.tell(put(self.some_tube(), 0, self.chance.randrange(3)))

    def go_on(self):
        # Batches are ended seldom, so that orders in them come by a result.
        turns = ([self.bring, self.divide, self.end, self.look, self.stand] + [self.ask_for] + [self.begin] * 3
                 + [self.try_out] * 5 + [self.tell_result] * 7 + [self.give_out] * 5)
        self.chance.choice(turns)()


def broken_rows(rows):
    """What each of a test's controls broke, as the document tells it."""
    model = ControlsModel()
    model.start(MEAN, SPREAD)
    return [model.batch(*row) for row in rows]


class ByChance(unittest.TestCase):
    @classmethod
    def setUpClass(cls):
        cls.laboratories = []
        for seed in range(16):
            laboratory = Laboratory(random.Random(seed))
            for _ in range(500):
                laboratory.go_on()
            cls.laboratories.append(laboratory)

    def ways(self):
        for laboratory in self.laboratories:
            for way in hold_given_out(self, laboratory.calls, laboratory.answered):
                yield laboratory, way

    def test_something_is_given_out_and_each_refusal_is_come_by(self):
        self.assertGreater(len(list(self.ways())), 60)
        seen = {(call[0], answer) for laboratory in self.laboratories
                for call, answer in zip(laboratory.calls, laboratory.answered)}
        self.assertLessEqual({(23, -71), (23, -16), (23, -11), (24, -11), (26, -17), (26, -11)}, seen)

    def test_its_own_patient(self):
        for laboratory, way in self.ways():
            patient = laboratory.calls[way["ordered"]][1]
            self.assertEqual(laboratory.calls[way["run"]][2], patient)
            known = [answer for call, answer in zip(laboratory.calls[:way["run"]], laboratory.answered) if call[0] == 16]
            self.assertIn(patient, [answer[1] for answer in known if answer != -2])

    def test_never_from_a_batch_that_was_out(self):
        for laboratory, way in self.ways():
            test, place = laboratory.row_at[way["closed"]]
            self.assertEqual(test, laboratory.calls[way["ordered"]][2])
            self.assertEqual(broken_rows(laboratory.rows[test])[place], 0)

    def test_batches_that_were_out_had_results_and_none_is_ready_by_them(self):
        results_lost = 0
        for laboratory in self.laboratories:
            for closed, (test, place) in laboratory.row_at.items():
                if broken_rows(laboratory.rows[test])[place] != 0:
                    self.assertEqual(laboratory.answered[closed], 0)
                    before = laboratory.calls[:closed]
                    orders = range(len(laboratory.patients))
                    states = ask(*before, *[state(number) for number in orders])[closed:]
                    after = ask(*before, laboratory.calls[closed], *[state(number) for number in orders])[closed + 1:]
                    results_lost += sum(old == 2 and new == 0 for old, new in zip(states, after))
                    self.assertEqual(states.count(3), after.count(3))
        self.assertGreater(results_lost, 20)

    def test_once(self):
        for laboratory in self.laboratories:
            given = [call[1] for call, answer in zip(laboratory.calls, laboratory.answered)
                     if call[0] == 26 and isinstance(answer, tuple)]
            self.assertEqual(len(given), len(set(given)))
            again = ask(*laboratory.calls, *[give(number) for number in given])[len(laboratory.calls):]
            self.assertEqual(again, [-17] * len(given))

    def test_nothing_lost(self):
        for laboratory in self.laboratories:
            asked = list(zip(laboratory.calls, laboratory.answered))
            for tube in laboratory.came:
                asked.append((sum_of(tube), ask(*laboratory.calls, sum_of(tube))[-1]))
            sums = [(call[1], answer) for call, answer in asked if call[0] == 17 and answer != -2]
            self.assertGreater(len(sums), len(laboratory.came))
            for tube, answer in sums:
                self.assertEqual(answer[1] + answer[2], laboratory.came[tube])


class ByHand(unittest.TestCase):
    def test_from_the_sample_to_the_result_through_a_batch_that_was_out(self):
        calls = [start_controls(100, 5), start_tubes(), start_orders(),
                 sample(41, 50), sample(42, 60), take(0, 20), put(2, 1, 9),
                 order(41, 3), order(42, 3), open_batch(3),
                 of(2), run(0, 41), use(2, 5), of(1), run(0, 42), run(1, 42), use(1, 6), result(0, 900), result(1, 800),
                 batch(100, 116), close(3, 1), give(0), state(0), state(1),
                 open_batch(3), run(0, 41), use(2, 5), run(1, 42), result(0, 901),
                 batch(100, 101), close(3, 0), give(0), give(0), give(1), state(1), sum_of(0), sum_of(1), sum_of(2)]
        expected = [0, 0, 0,
                    0, 1, 2, 0,
                    0, 1, 0,
                    (0, 41, 0, 20, 1), 0, 15, (0, 42, 1, 60, 0), -71, 0, 54, 0, 0,
                    1, 0, -11, 0, 0,
                    0, 0, 10, 0, 0,
                    0, 1, (0, 901), -17, -11, 0, (2, 40, 10), (1, 54, 6), -2]
        self.assertEqual(ask(*calls), expected)

    def test_part_3_takes_what_it_is_told_and_looks_at_no_other_part(self):
        calls = [start_controls(100, 5), start_orders(), batch(116), order(9, 3), open_batch(3), run(0, 9), result(0, 1),
                 close(3, 0), give(0)]
        self.assertEqual(ask(*calls), [0, 0, 1, 0, 0, 0, 0, 1, (0, 1)])


if __name__ == "__main__":
    unittest.main()
