"""The interface: one list of calls, one list of answers, the parts beside one another."""

import itertools
import random
import unittest

from tests import chance as by_chance
from tests.lines import (ask, at, batch, close, count, flat, give, of, open_batch, order, put, result, run, sample,
                         split_answers, start_controls, start_orders, start_tubes, state, sum_of, take, use)
from wholelab.desk import answers

CONTROLS = [start_controls(5, 0), start_controls(100, 5), batch(101, 111), count(), start_controls(0, 0), batch(111),
            count(), batch(), batch(*[100] * 12), batch(*[101] * 8), batch(-2 ** 31), count(), start_controls(0, 1),
            batch(0, 1, -1), count()]
CONTROLS_TOLD = [-22, 0, 0, 2, -22, 2, 0, -22, -22, 0, 1, 0, 0, 0, 3]
TUBES = [start_tubes(), sample(7, 100), take(0, 40), put(1, 2, 3), at(2, 3), use(1, 41), use(1, 40), of(1), of(2),
         sum_of(0), sum_of(1), sample(8, 0), put(0, 2, 3), put(0, 16, 0), start_tubes(), of(0), sample(0, 1), of(0),
         sum_of(0)]
TUBES_TOLD = [0, 0, 1, 0, 1, -61, 0, (0, 7, 0, 0, 1), -2, (2, 60, 40), -2, -22, -17, -22, 0, -2, 0, (0, 0, 0, 1, 0),
              (1, 1, 0)]
ORDERS = [start_orders(), order(7, 3), order(8, 16), open_batch(3), open_batch(3), run(0, 8), run(0, 7), result(0, 70),
          close(3, 1), state(0), open_batch(3), run(0, 7), result(0, 71), result(1, 1), close(3, 0), give(0), give(0),
          state(0), start_orders(), state(0), close(3, 0), order(8, 15), give(0)]
ORDERS_TOLD = [0, 0, -22, 0, -16, -71, 0, 0, 0, 0, 0, 0, 0, -2, 1, (0, 71), -17, 4, 0, -2, -11, 0, -11]
PARTS = ((CONTROLS, CONTROLS_TOLD), (TUBES, TUBES_TOLD), (ORDERS, ORDERS_TOLD))
ALL = CONTROLS + TUBES + ORDERS
ALL_TOLD = CONTROLS_TOLD + TUBES_TOLD + ORDERS_TOLD


def some_of(parts):
    """Each choice of one, two or all of the parts, in each order."""
    return [chosen for many in range(1, len(parts) + 1) for chosen in itertools.permutations(parts, many)]


def shuffled_together(chance, *lists):
    """All in their own order, in any order among one another; with the place of the list that each call is of."""
    turns = [place for place, calls in enumerate(lists) for _ in calls]
    chance.shuffle(turns)
    ways = [iter(calls) for calls in lists]
    return turns, [next(ways[turn]) for turn in turns]


def answers_of(turns, answered, place):
    return [answer for turn, answer in zip(turns, answered) if turn == place]


class Form(unittest.TestCase):
    def test_each_answer_with_how_many_numbers_it_has(self):
        calls = [0, 100, 5, 1, 2, 100, 116, 2, 10, 11, 7, 50, 12, 0, 20, 13, 0, 1, 14, 1, 0, 95, 15, 0, 95, 16, 1, 16, 2]
        told = [1, 0, 1, 1, 1, 0, 1, 0, 1, 0, 1, 1, 1, 29, 1, 0, 1, 1, 5, 0, 7, 0, 20, 1, 1, -2]
        self.assertEqual(answers(calls), told)

    def test_sum_and_the_calls_of_orders_likewise(self):
        calls = [10, 11, 7, 50, 13, 0, 20, 17, 0, 17, 1]
        self.assertEqual(answers(calls), [1, 0, 1, 0, 1, 30, 3, 1, 30, 20, 1, -2])
        calls = [20, 21, 7, 15, 22, 15, 23, 0, 7, 24, 0, 99, 27, 0, 25, 15, 0, 26, 0, 27, 0, 26, 0]
        self.assertEqual(answers(calls), [1, 0, 1, 0, 1, 0, 1, 0, 1, 0, 1, 2, 1, 1, 2, 0, 99, 1, 4, 1, -17])

    def test_a_refusal_is_its_number_alone(self):
        self.assertEqual(answers([10, 16, 0]), [1, 0, 1, -2])
        self.assertEqual(answers([0, 0, 0]), [1, -22])
        self.assertEqual(answers([10, 17, 0]), [1, 0, 1, -2])
        self.assertEqual(answers([20, 26, 0, 21, 1, 2, 26, 0]), [1, 0, 1, -2, 1, 0, 1, -11])

    def test_a_row_that_looks_like_calls_is_values(self):
        self.assertEqual(answers([0, 0, 1, 1, 3, 0, 1, 2, 2]), [1, 0, 1, 0, 1, 3])

    def test_it_is_a_list_of_whole_numbers(self):
        answered = answers(flat(ALL))
        self.assertIs(type(answered), list)
        self.assertEqual({type(number) for number in answered}, {int})

    def test_one_call(self):
        self.assertEqual(answers([0, 0, 1]), [1, 0])
        self.assertEqual(answers([10]), [1, 0])
        self.assertEqual(answers([20]), [1, 0])

    def test_4000_calls_and_30000_numbers(self):
        calls = [start_controls(0, 1)] + [batch(*[0] * 8)] * 1997 + [start_tubes()] + [sample(1, 9)] * 256
        calls += [put(tube, tube // 96, tube % 96) for tube in range(256)] + [at(15, 95)] * 1489
        self.assertEqual(len(calls), 4000)
        self.assertLessEqual(len(flat(calls)), 30000)
        answered = ask(*calls)
        self.assertEqual(answered[:1998], [0] * 1998)
        self.assertEqual(answered[-1489:], [-2] * 1489)


class Parts(unittest.TestCase):
    def test_one_behind_another_and_some_left_out(self):
        for chosen in some_of(PARTS):
            calls = [call for part, _ in chosen for call in part]
            told = [answer for _, part in chosen for answer in part]
            self.assertEqual(ask(*calls), told)

    def test_in_any_order_among_one_another(self):
        chance = random.Random(5)
        for chosen in some_of(PARTS):
            for _ in range(40):
                turns, calls = shuffled_together(chance, *[part for part, _ in chosen])
                answered = ask(*calls)
                for place, (_, told) in enumerate(chosen):
                    self.assertEqual(answers_of(turns, answered, place), told)

    def test_by_chance_each_part_is_answered_as_if_alone(self):
        chance = random.Random(10)
        for chosen in some_of(tuple(by_chance.CALLS)):
            lists = [by_chance.CALLS[part](chance, 1200) for part in chosen]
            turns, calls = shuffled_together(chance, *[by_chance.written(*each) for each in zip(chosen, lists)])
            answered = ask(*calls)
            for place, part in enumerate(chosen):
                self.assertEqual(answers_of(turns, answered, place), by_chance.told(part, lists[place]))

    def test_a_start_of_one_part_leaves_the_others(self):
        calls = [start_controls(0, 10), start_tubes(), start_orders(), batch(21), sample(3, 4), order(5, 6), open_batch(6)]
        looks = [count(), of(0), sum_of(0), state(0), open_batch(6)]
        for begun, told in ((start_controls(0, 10), [0, (0, 3, 0, 4, 0), (1, 4, 0), 0, -16]),
                            (start_tubes(), [1, -2, -2, 0, -16]),
                            (start_orders(), [1, (0, 3, 0, 4, 0), (1, 4, 0), -2, 0])):
            self.assertEqual(ask(*calls, begun, *looks)[len(calls):], [0, *told])


class NothingKept(unittest.TestCase):
    def test_what_is_handed_in_is_as_it_was(self):
        calls = flat(ALL)
        before = list(calls)
        answers(calls)
        self.assertEqual(calls, before)

    def test_it_is_not_changed_for_a_while_either(self):
        class Watched(list):
            def refuse(self, *handed):
                raise AssertionError("the list is changed")

            append = extend = insert = pop = remove = clear = sort = reverse = refuse
            __setitem__ = __delitem__ = __iadd__ = __imul__ = refuse

        self.assertEqual(split_answers(answers(Watched(flat(ALL)))), ALL_TOLD)

    def test_the_same_list_twice_is_answered_the_same(self):
        calls = flat(ALL)
        first = answers(calls)
        kept = list(first)
        self.assertEqual(answers(calls), kept)
        self.assertEqual(first, kept)

    def test_an_answer_that_is_changed_leaves_the_next_one(self):
        calls = flat(ALL)
        first = answers(calls)
        kept = list(first)
        first.clear()
        self.assertEqual(answers(calls), kept)

    def test_nothing_goes_from_one_list_to_the_next(self):
        answers(flat([start_controls(0, 10), batch(21), start_tubes(), sample(1, 2), put(0, 0, 0), start_orders(),
                      order(1, 2), open_batch(2)]))
        calls = [start_controls(0, 10), count(), batch(21), start_tubes(), of(0), sum_of(0), at(0, 0), start_orders(),
                 state(0), close(2, 0)]
        self.assertEqual(ask(*calls), [0, 0, 0, 0, -2, -2, -2, 0, -2, -11])


if __name__ == "__main__":
    unittest.main()
