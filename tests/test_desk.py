"""The interface: one list of calls, one list of answers, the parts beside one another."""

import random
import unittest

from tests.lines import (ask, at, batch, count, flat, of, put, sample, split_answers, start_controls, start_tubes,
                         take, use)
from wholelab.desk import answers

CONTROLS = [start_controls(5, 0), start_controls(100, 5), batch(101, 111), count(), start_controls(0, 0), batch(111),
            count(), batch(), batch(*[100] * 12), batch(*[101] * 8), batch(-2 ** 31), count(), start_controls(0, 1),
            batch(0, 1, -1), count()]
CONTROLS_TOLD = [-22, 0, 0, 2, -22, 2, 0, -22, -22, 0, 1, 0, 0, 0, 3]
TUBES = [start_tubes(), sample(7, 100), take(0, 40), put(1, 2, 3), at(2, 3), use(1, 41), use(1, 40), of(1), of(2),
         sample(8, 0), put(0, 2, 3), put(0, 16, 0), start_tubes(), of(0), sample(0, 1), of(0)]
TUBES_TOLD = [0, 0, 1, 0, 1, -61, 0, (0, 7, 0, 0, 1), -2, -22, -17, -22, 0, -2, 0, (0, 0, 0, 1, 0)]


def shuffled_together(chance, left, right):
    """Both in their own order, in any order among one another; True stands for the left one's."""
    turns = [True] * len(left) + [False] * len(right)
    chance.shuffle(turns)
    ways = {True: iter(left), False: iter(right)}
    return turns, [next(ways[turn]) for turn in turns]


class Form(unittest.TestCase):
    def test_each_answer_with_how_many_numbers_it_has(self):
        calls = [0, 100, 5, 1, 2, 100, 116, 2, 10, 11, 7, 50, 12, 0, 20, 13, 0, 1, 14, 1, 0, 95, 15, 0, 95, 16, 1, 16, 2]
        told = [1, 0, 1, 1, 1, 0, 1, 0, 1, 0, 1, 1, 1, 29, 1, 0, 1, 1, 5, 0, 7, 0, 20, 1, 1, -2]
        self.assertEqual(answers(calls), told)

    def test_a_refusal_is_its_number_alone(self):
        self.assertEqual(answers([10, 16, 0]), [1, 0, 1, -2])
        self.assertEqual(answers([0, 0, 0]), [1, -22])

    def test_a_row_that_looks_like_calls_is_values(self):
        self.assertEqual(answers([0, 0, 1, 1, 3, 0, 1, 2, 2]), [1, 0, 1, 0, 1, 3])

    def test_it_is_a_list_of_whole_numbers(self):
        answered = answers(flat(CONTROLS + TUBES))
        self.assertIs(type(answered), list)
        self.assertEqual({type(number) for number in answered}, {int})

    def test_one_call(self):
        self.assertEqual(answers([10]), [1, 0])

    def test_4000_calls_and_30000_numbers(self):
        calls = [start_controls(0, 1)] + [batch(*[0] * 8)] * 1997 + [start_tubes()] + [sample(1, 9)] * 256
        calls += [put(tube, tube // 96, tube % 96) for tube in range(256)] + [at(15, 95)] * 1489
        self.assertEqual(len(calls), 4000)
        self.assertLessEqual(len(flat(calls)), 30000)
        answered = ask(*calls)
        self.assertEqual(answered[:1998], [0] * 1998)
        self.assertEqual(answered[-1489:], [-2] * 1489)


class Parts(unittest.TestCase):
    def test_controls_alone(self):
        self.assertEqual(ask(*CONTROLS), CONTROLS_TOLD)

    def test_tubes_alone(self):
        self.assertEqual(ask(*TUBES), TUBES_TOLD)

    def test_one_behind_the_other(self):
        self.assertEqual(ask(*CONTROLS, *TUBES), CONTROLS_TOLD + TUBES_TOLD)
        self.assertEqual(ask(*TUBES, *CONTROLS), TUBES_TOLD + CONTROLS_TOLD)

    def test_in_any_order_among_one_another(self):
        chance = random.Random(5)
        for _ in range(200):
            turns, calls = shuffled_together(chance, CONTROLS, TUBES)
            answered = list(zip(turns, ask(*calls)))
            self.assertEqual([answer for turn, answer in answered if turn], CONTROLS_TOLD)
            self.assertEqual([answer for turn, answer in answered if not turn], TUBES_TOLD)

    def test_a_start_of_one_part_leaves_the_other(self):
        calls = [start_controls(0, 10), start_tubes(), batch(21), sample(3, 4), start_tubes(), count(), sample(5, 6),
                 start_controls(0, 10), of(0), count()]
        self.assertEqual(ask(*calls), [0, 0, 0, 0, 0, 1, 0, 0, (0, 5, 0, 6, 0), 0])


class NothingKept(unittest.TestCase):
    def test_what_is_handed_in_is_as_it_was(self):
        calls = flat(CONTROLS + TUBES)
        before = list(calls)
        answers(calls)
        self.assertEqual(calls, before)

    def test_it_is_not_changed_for_a_while_either(self):
        class Watched(list):
            def refuse(self, *handed):
                raise AssertionError("the list is changed")

            append = extend = insert = pop = remove = clear = sort = reverse = refuse
            __setitem__ = __delitem__ = __iadd__ = __imul__ = refuse

        self.assertEqual(split_answers(answers(Watched(flat(CONTROLS + TUBES)))), CONTROLS_TOLD + TUBES_TOLD)

    def test_the_same_list_twice_is_answered_the_same(self):
        calls = flat(CONTROLS + TUBES)
        first = answers(calls)
        kept = list(first)
        self.assertEqual(answers(calls), kept)
        self.assertEqual(first, kept)

    def test_an_answer_that_is_changed_leaves_the_next_one(self):
        calls = flat(TUBES)
        first = answers(calls)
        kept = list(first)
        first.clear()
        self.assertEqual(answers(calls), kept)

    def test_nothing_goes_from_one_list_to_the_next(self):
        answers(flat([start_controls(0, 10), batch(21), start_tubes(), sample(1, 2), put(0, 0, 0)]))
        calls = [start_controls(0, 10), count(), batch(21), start_tubes(), of(0), at(0, 0)]
        self.assertEqual(ask(*calls), [0, 0, 0, 0, -2, -2])


if __name__ == "__main__":
    unittest.main()
