"""Part 3: start, order, open, run, result, close, give, state, and what holds."""

import random
import unittest

from tests.chance import orders_calls, told, written
from tests.ledger import hold_given_out
from tests.lines import ask, close, give, open_batch, order, result, run, start_orders, state

HIGHEST = 2 ** 32 - 1
FULL = [order(5, 3)] * 256

# Order 0 of patient 5, of test 3, in each of the ways that it may stand.
WAITS = [order(5, 3)]
IN_BATCH = WAITS + [open_batch(3), run(0, 5)]
HAS_RESULT = IN_BATCH + [result(0, 70)]
READY = HAS_RESULT + [close(3, 0)]
GIVEN_OUT = READY + [give(0)]
WAYS = [WAITS, IN_BATCH, HAS_RESULT, READY, GIVEN_OUT]


def orders(*calls):
    """What each call is answered, of orders that are new."""
    return ask(start_orders(), *calls)[1:]


class Start(unittest.TestCase):
    def test_answers_0(self):
        self.assertEqual(ask(start_orders()), [0])

    def test_no_orders(self):
        self.assertEqual(orders(run(0, 0), result(0, 0), give(0), state(0)), [-2] * 4)

    def test_no_batch_open(self):
        for test in range(16):
            self.assertEqual(orders(close(test, 0), open_batch(test), close(test, 0)), [-11, 0, 0])

    def test_comes_again(self):
        for way in WAYS:
            calls = [start_orders(), state(0), close(3, 0), order(6, 3), state(0), run(0, 6), open_batch(3), run(0, 6),
                     close(3, 0), give(0)]
            self.assertEqual(orders(*way, *calls)[len(way):], [0, -2, -11, 0, 0, -11, 0, 0, 0, -11])

    def test_comes_again_behind_256(self):
        self.assertEqual(orders(*FULL, order(5, 3), start_orders(), order(5, 3), state(1))[-4:], [-28, 0, 0, -2])


class Order(unittest.TestCase):
    def test_is_numbered_as_it_came_and_waits(self):
        calls = [order(5, 0), order(0, 15), order(HIGHEST, 7), order(5, 0), state(0), state(1), state(2), state(3)]
        self.assertEqual(orders(*calls), [0, 1, 2, 3, 0, 0, 0, 0])

    def test_256_orders(self):
        self.assertEqual(orders(*FULL, order(5, 3), state(255), state(256)), list(range(256)) + [-28, 0, -2])

    def test_tests_15_and_16(self):
        calls = [order(5, 16), order(5, HIGHEST), state(0), order(5, 15), state(0), state(1)]
        self.assertEqual(orders(*calls), [-22, -22, -2, 0, 0, -2])

    def test_of_two_refusals_the_one_told_first(self):
        self.assertEqual(orders(*FULL, order(5, 16), order(5, 15))[-2:], [-22, -28])

    def test_of_a_test_whose_batch_is_open_it_waits(self):
        calls = [open_batch(3), order(5, 3), state(0), result(0, 1), close(3, 0), state(0)]
        self.assertEqual(orders(*calls), [0, 0, 0, -11, 0, 0])

    def test_the_last_of_256_goes_all_the_way(self):
        calls = [open_batch(3), run(255, 5), result(255, 9), close(3, 0), give(255), give(254)]
        self.assertEqual(orders(*FULL, *calls)[256:], [0, 0, 0, 1, (0, 9), -11])


class Open(unittest.TestCase):
    def test_one_of_each_test(self):
        calls = [open_batch(test) for test in range(16)]
        self.assertEqual(orders(*calls, *calls), [0] * 16 + [-16] * 16)

    def test_tests_15_and_16(self):
        self.assertEqual(orders(open_batch(15), open_batch(16), open_batch(16), open_batch(HIGHEST)), [0, -22, -22, -22])

    def test_a_refusal_leaves_those_in_the_open_one(self):
        calls = [open_batch(3), state(0), close(3, 0), give(0)]
        self.assertEqual(orders(*HAS_RESULT, *calls)[-4:], [-16, 2, 1, (0, 70)])

    def test_again_behind_a_close_it_is_empty(self):
        for broken in (0, 1):
            calls = [close(3, broken), open_batch(3), state(0), close(3, 0)]
            self.assertEqual(orders(*IN_BATCH, *calls)[3:], [0, 0, 0, 0])

    def test_it_takes_in_none_that_waits(self):
        self.assertEqual(orders(order(5, 3), open_batch(3), state(0), result(0, 1), close(3, 0)), [0, 0, 0, -11, 0])


class Run(unittest.TestCase):
    def test_it_is_in_the_batch(self):
        self.assertEqual(orders(*WAITS, open_batch(3), run(0, 5), state(0)), [0, 0, 0, 1])

    def test_patients_at_their_ends(self):
        calls = [order(HIGHEST, 3), order(0, 3), open_batch(3), run(0, 0), run(1, HIGHEST), run(0, HIGHEST - 1),
                 run(0, HIGHEST), run(1, 0), state(0), state(1)]
        self.assertEqual(orders(*calls), [0, 1, 0, -71, -71, -71, 0, 0, 1, 1])

    def test_refusals_change_nothing(self):
        calls = [run(1, 5), run(HIGHEST, 5), run(0, 6), state(0), close(3, 0)]
        self.assertEqual(orders(*WAITS, open_batch(3), *calls)[2:], [-2, -2, -71, 0, 0])

    def test_no_batch_of_its_test_is_open(self):
        others = [open_batch(test) for test in range(16) if test != 3]
        calls = [run(0, 5), *others, run(0, 5), state(0), open_batch(3), run(0, 5), state(0)]
        self.assertEqual(orders(*WAITS, *calls), [0, -11] + [0] * 15 + [-11, 0, 0, 0, 1])

    def test_an_order_run_twice(self):
        self.assertEqual(orders(*IN_BATCH, run(0, 5), state(0), result(0, 1), run(0, 5), close(3, 0)),
                         [0, 0, 0, -16, 1, 0, -16, 1])

    def test_one_that_does_not_wait(self):
        for number, way in enumerate(WAYS[1:], 1):
            for begun in ([], [open_batch(3)]):
                self.assertEqual(orders(*way, *begun, run(0, 5), state(0))[-2:], [-16, number])

    def test_of_two_refusals_the_one_told_first(self):
        self.assertEqual(orders(run(0, 5), order(5, 3), run(0, 6), run(0, 5)), [-2, 0, -71, -11])
        for way in WAYS[1:]:
            self.assertEqual(orders(*way, run(0, 6), run(1, 6))[-2:], [-71, -2])
        # Ready, and given out, with no batch open.
        for way in WAYS[3:]:
            self.assertEqual(orders(*way, run(0, 5))[-1], -16)

    def test_again_behind_a_batch_that_was_out(self):
        calls = [close(3, 1), run(0, 5), open_batch(3), run(0, 5), state(0), run(0, 5)]
        self.assertEqual(orders(*HAS_RESULT, *calls)[4:], [0, -11, 0, 0, 1, -16])

    def test_again_behind_one_that_was_in_where_it_had_no_result(self):
        calls = [close(3, 0), state(0), open_batch(3), run(0, 5), result(0, 8), close(3, 0), give(0)]
        self.assertEqual(orders(*IN_BATCH, *calls)[3:], [0, 0, 0, 0, 0, 1, (0, 8)])


class Result(unittest.TestCase):
    def test_it_has_a_result_there(self):
        self.assertEqual(orders(*IN_BATCH, result(0, 70), state(0))[3:], [0, 2])

    def test_values_at_their_ends(self):
        for value in (0, 1, 2 ** 31 - 1, 2 ** 31, HIGHEST):
            self.assertEqual(orders(*IN_BATCH, result(0, value), close(3, 0), give(0))[3:], [0, 1, (0, value)])

    def test_no_such_order(self):
        self.assertEqual(orders(result(0, 1), *IN_BATCH, result(1, 1), result(HIGHEST, 1), state(0)),
                         [-2, 0, 0, 0, -2, -2, 1])

    def test_before_it_is_run(self):
        calls = [order(5, 3), result(0, 1), open_batch(3), result(0, 1), state(0), run(0, 5), close(3, 0), state(0)]
        self.assertEqual(orders(*calls), [0, -11, 0, -11, 0, 0, 0, 0])

    def test_a_second_one_leaves_the_first(self):
        calls = [result(0, 71), state(0), close(3, 0), give(0)]
        self.assertEqual(orders(*HAS_RESULT, *calls)[4:], [-11, 2, 1, (0, 70)])

    def test_one_that_is_in_no_batch_any_more(self):
        for number, way in ((0, HAS_RESULT + [close(3, 1)]), (3, READY), (4, GIVEN_OUT)):
            self.assertEqual(orders(*way, result(0, 71), state(0))[-2:], [-11, number])
        self.assertEqual(orders(*READY, result(0, 71), open_batch(3), result(0, 72), give(0))[5:], [-11, 0, -11, (0, 70)])

    def test_each_order_has_its_own(self):
        calls = [order(5, 3), order(5, 3), order(6, 3), open_batch(3), run(2, 6), run(0, 5), run(1, 5), result(1, 11),
                 result(2, 12), result(0, 10), close(3, 0), give(0), give(1), give(2)]
        self.assertEqual(orders(*calls)[10:], [3, (0, 10), (0, 11), (0, 12)])


class Close(unittest.TestCase):
    def test_with_nothing_broken_those_with_a_result_are_ready(self):
        calls = [order(5, 3)] * 4 + [open_batch(3), run(0, 5), run(1, 5), run(2, 5), result(0, 7), result(2, 8)]
        ended = [close(3, 0), state(0), state(1), state(2), state(3), give(0), give(1), give(2), give(3)]
        self.assertEqual(orders(*calls, *ended)[10:], [2, 3, 0, 3, 0, (0, 7), -11, (0, 8), -11])

    def test_with_some_broken_all_wait_and_have_no_result(self):
        for broken in (1, 2, 31, 2 ** 31, HIGHEST):
            calls = [order(5, 3)] * 3 + [open_batch(3), run(0, 5), run(1, 5), result(0, 7)]
            ended = [close(3, broken), state(0), state(1), state(2), give(0), give(1), give(2)]
            self.assertEqual(orders(*calls, *ended)[7:], [0, 0, 0, 0, -11, -11, -11])

    def test_a_batch_closed_empty(self):
        for broken in (0, 1, HIGHEST):
            calls = [order(5, 3), open_batch(3), close(3, broken), state(0), close(3, broken), open_batch(3)]
            self.assertEqual(orders(*calls), [0, 0, 0, 0, -11, 0])

    def test_one_closed_with_orders_that_have_no_result(self):
        for broken in (0, 1, HIGHEST):
            self.assertEqual(orders(*IN_BATCH, close(3, broken), state(0), give(0), result(0, 1)), [0] * 5 + [-11, -11])

    def test_tests_15_and_16(self):
        calls = [open_batch(15), close(16, 0), close(HIGHEST, 1), close(15, 0), close(15, 0), close(16, 0)]
        self.assertEqual(orders(*calls), [0, -22, -22, 0, -11, -22])

    def test_none_is_open(self):
        self.assertEqual(orders(*HAS_RESULT, close(4, 0), state(0), close(3, 0), close(3, 1), state(0), give(0))[4:],
                         [-11, 2, 1, -11, 3, (0, 70)])

    def test_it_touches_its_own_test_alone(self):
        calls = [order(5, 3), order(5, 4), order(5, 2), open_batch(3), open_batch(4), open_batch(2), run(0, 5), run(1, 5),
                 run(2, 5), result(0, 7), result(1, 8)]
        states = [state(0), state(1), state(2)]
        for broken, first, ready in ((0, 3, 1), (1, 0, 0)):
            ended = [close(3, broken), *states, close(4, 0), *states, close(2, 0), *states]
            expected = [ready, first, 2, 1, 1, first, 3, 1, 0, first, 3, 0]
            self.assertEqual(orders(*calls, *ended)[len(calls):], expected)

    def test_it_touches_those_alone_that_are_in_the_batch(self):
        # Of one test: 0 is given out, 1 is ready, 2 is in the batch, 3 waits.
        calls = [order(5, 3)] * 4 + [open_batch(3), run(0, 5), run(1, 5), result(0, 70), result(1, 71), close(3, 0),
                                     give(0), open_batch(3), run(2, 5), result(2, 72)]
        for broken, ready, last, given in ((0, 1, 3, (0, 72)), (1, 0, 0, -11), (HIGHEST, 0, 0, -11)):
            ended = [close(3, broken), state(0), state(1), state(2), state(3), give(0), give(1), give(2), give(3)]
            expected = [ready, 4, 3, last, 0, -17, (0, 71), given, -11]
            self.assertEqual(orders(*calls, *ended)[len(calls):], expected)

    def test_256_in_one_batch(self):
        runs = [run(number, 5) for number in range(256)]
        results = [result(number, number * 3) for number in range(256)]
        gives = [give(number) for number in range(256)]
        asked = orders(*FULL, open_batch(3), *runs, *results, close(3, 0), *gives)
        self.assertEqual(asked[-257:], [256] + [(0, number * 3) for number in range(256)])
        self.assertEqual(orders(*FULL, open_batch(3), *runs, *results, close(3, 1), *gives)[-257:], [0] + [-11] * 256)


class Give(unittest.TestCase):
    def test_a_ready_one_with_its_result(self):
        self.assertEqual(orders(*READY, give(0), state(0))[5:], [(0, 70), 4])

    def test_twice(self):
        self.assertEqual(orders(*READY, give(0), give(0), give(0), state(0))[5:], [(0, 70), -17, -17, 4])

    def test_one_that_is_not_ready(self):
        for number, way in enumerate(WAYS[:3]):
            self.assertEqual(orders(*way, give(0), state(0))[-2:], [-11, number])

    def test_no_such_order(self):
        self.assertEqual(orders(give(0), *READY, give(1), give(256), give(HIGHEST), state(0)),
                         [-2, 0, 0, 0, 0, 1, -2, -2, -2, 3])

    def test_while_another_batch_of_its_test_is_open_or_was_out(self):
        calls = [open_batch(3), give(0), close(3, 1), give(0), state(0)]
        self.assertEqual(orders(*READY, *calls)[5:], [0, (0, 70), 0, -17, 4])
        self.assertEqual(orders(*READY, open_batch(3), close(3, 1), give(0))[5:], [0, 0, (0, 70)])

    def test_two_tests_of_one_patient(self):
        calls = [order(5, 3), order(5, 4), open_batch(3), open_batch(4), run(0, 5), run(1, 5), result(0, 7), result(1, 8),
                 close(3, 1), close(4, 0), give(0), give(1), state(0), state(1)]
        self.assertEqual(orders(*calls)[8:], [0, 1, -11, (0, 8), 0, 4])

    def test_a_result_of_a_batch_that_was_out_is_gone(self):
        again = [open_batch(3), run(0, 5), state(0), close(3, 0), state(0), give(0)]
        self.assertEqual(orders(*HAS_RESULT, close(3, 1), state(0), *again)[4:], [0, 0, 0, 0, 1, 0, 0, -11])
        again = [open_batch(3), run(0, 5), result(0, 71), close(3, 0), give(0), give(0)]
        self.assertEqual(orders(*HAS_RESULT, close(3, 1), *again)[5:], [0, 0, 0, 1, (0, 71), -17])

    def test_run_through_many_batches_that_were_out(self):
        calls = list(WAITS)
        for value in range(20):
            calls += [open_batch(3), run(0, 5), result(0, value), close(3, 1 + value), give(0)]
        calls += [open_batch(3), run(0, 5), result(0, HIGHEST), close(3, 0), give(0), give(0)]
        self.assertEqual(orders(*calls), [0] + [0, 0, 0, 0, -11] * 20 + [0, 0, 0, 1, (0, HIGHEST), -17])


class State(unittest.TestCase):
    def test_each_way_it_may_stand(self):
        for number, way in enumerate(WAYS):
            self.assertEqual(orders(*way, state(0), state(0))[-2:], [number, number])

    def test_no_such_order(self):
        self.assertEqual(orders(state(0), order(5, 3), state(1), state(256), state(HIGHEST)), [-2, 0, -2, -2, -2])


class WhatHolds(unittest.TestCase):
    def test_each_call_is_as_the_document_tells_it(self):
        chance = random.Random(7)
        seen = set()
        for ordered in (0, 0, 100, 240, 240):
            calls = orders_calls(chance, 3600, ordered)
            expected = told("orders", calls)
            self.assertEqual(ask(*written("orders", calls)), expected)
            seen |= {(call[0], answer if not isinstance(answer, tuple) else "given")
                     for call, answer in zip(calls, expected)}
        for name, answers in (("order", (-22, -28, 255)), ("open_batch", (-22, -16, 0)), ("run", (-2, -71, -16, -11, 0)),
                              ("result", (-2, -11, 0)), ("close", (-22, -11, 0, 1, 2, 3)),
                              ("give", (-2, -17, -11, "given")), ("state", (-2, 0, 1, 2, 3, 4))):
            self.assertLessEqual({(name, answer) for answer in answers}, seen)

    def test_what_is_given_out_was_ready_and_is_given_out_once(self):
        chance = random.Random(8)
        given = {}
        calls = [("start",)]
        for call in orders_calls(chance, 1300)[1:]:
            if call[0] == "give":
                calls.append(("state", call[1]))
            if call[0] != "start":
                calls.append(call)
        asked = ask(*written("orders", calls))
        for place, answer in enumerate(asked):
            if calls[place][0] == "give":
                self.assertEqual(isinstance(answer, tuple), asked[place - 1] == 3)
                given[calls[place][1]] = given.get(calls[place][1], 0) + isinstance(answer, tuple)
        self.assertEqual(set(given.values()), {0, 1})

    def test_it_was_a_result_in_a_batch_with_nothing_broken_run_for_its_own_patient(self):
        chance = random.Random(9)
        held = 0
        for _ in range(10):
            calls = [call for call in orders_calls(chance, 1500)[1:] if call[0] != "start"]
            calls = written("orders", [("start",)] + calls)
            held += len(hold_given_out(self, calls, ask(*calls)))
        self.assertGreater(held, 100)


if __name__ == "__main__":
    unittest.main()
