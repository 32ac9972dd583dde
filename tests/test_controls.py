"""Part 1: start, batch, count, and what holds."""

import random
import unittest

from tests.chance import rows
from tests.lines import ask, batch, count, start_controls
from tests.models import ControlsModel
from wholelab.controls import Controls

LOWEST = -2 ** 31
HIGHEST = 2 ** 31 - 1


def batches(mean, spread, *rows):
    """What each batch is answered, of a control that is new."""
    return ask(start_controls(mean, spread), *[batch(*row) for row in rows])[1:]


class Start(unittest.TestCase):
    def test_means_and_spreads_at_their_ends(self):
        for mean in (-10 ** 9, 0, 10 ** 9):
            for spread in (1, 10 ** 6):
                self.assertEqual(ask(start_controls(mean, spread)), [0])

    def test_means_and_spreads_beyond_their_ends(self):
        for mean, spread in ((-10 ** 9 - 1, 1), (10 ** 9 + 1, 1), (LOWEST, 1), (HIGHEST, 1),
                             (0, 0), (0, 10 ** 6 + 1), (0, 2 ** 32 - 1), (HIGHEST, 0)):
            self.assertEqual(ask(start_controls(mean, spread)), [-22], (mean, spread))

    def test_refused_ahead_of_one_that_is_answered_0(self):
        calls = [start_controls(0, 0), start_controls(HIGHEST, 5), start_controls(100, 5), count(), batch(115, 116)]
        self.assertEqual(ask(*calls), [-22, -22, 0, 0, 1 + 2])

    def test_refused_later_the_part_stays_as_it_was(self):
        for refused in (start_controls(7, 0), start_controls(10 ** 9 + 1, 3), start_controls(0, 10 ** 6 + 1)):
            calls = [start_controls(100, 5), batch(111), refused, count(), batch(115, 111), count()]
            self.assertEqual(ask(*calls), [0, 0, -22, 1, 2, 0])

    def test_comes_again(self):
        calls = [start_controls(100, 5), batch(111), count(), start_controls(100, 5), count(), batch(111), count()]
        self.assertEqual(ask(*calls), [0, 0, 1, 0, 0, 0, 1])

    def test_comes_again_with_another_control(self):
        calls = [start_controls(100, 5), batch(115), start_controls(0, 1), batch(0), batch(4), start_controls(100, 5),
                 batch(115)]
        self.assertEqual(ask(*calls), [0, 0, 0, 0, 1, 0, 0])


class HowMany(unittest.TestCase):
    def test_batches_of_0_1_8_9_and_12_values(self):
        for n, answer in ((0, -22), (1, 0), (8, 0), (9, -22), (12, -22)):
            self.assertEqual(batches(50, 1, [50] * n), [answer], n)

    def test_a_refused_batch_changes_nothing(self):
        for n in (0, 9, 12):
            calls = [start_controls(0, 10), batch(21), batch(*[1000] * n), count(), batch(21)]
            self.assertEqual(ask(*calls), [0, 0, -22, 1, 2])

    def test_what_stands_behind_a_refused_batch_is_read_as_calls(self):
        calls = [start_controls(0, 10), batch(*[2] * 12), count(), batch(), count()]
        self.assertEqual(ask(*calls), [0, -22, 0, -22, 0])


class Rule1(unittest.TestCase):
    def test_just_3_spreads_is_not_far_by_3(self):
        self.assertEqual(batches(100, 5, [115]), [0])
        self.assertEqual(batches(100, 5, [85]), [0])

    def test_one_more_is(self):
        self.assertEqual(batches(100, 5, [116]), [1])
        self.assertEqual(batches(100, 5, [84]), [1])

    def test_at_any_value_of_the_batch(self):
        for i in range(8):
            row = [100] * 8
            row[i] = 116
            self.assertEqual(batches(100, 5, row), [1])

    def test_is_told_once(self):
        self.assertEqual(batches(100, 5, [116, 100, 116, 100, 116]), [1])

    def test_values_of_2_to_the_31(self):
        self.assertEqual(batches(0, 10 ** 6, [HIGHEST]), [1])
        self.assertEqual(batches(0, 10 ** 6, [LOWEST]), [1])
        self.assertEqual(batches(10 ** 9, 10 ** 6, [LOWEST, HIGHEST]), [1 + 4])
        self.assertEqual(batches(-10 ** 9, 10 ** 6, [HIGHEST, HIGHEST, LOWEST, LOWEST]), [1 + 2 + 4])


class Rule2(unittest.TestCase):
    def test_just_2_spreads_is_not_far_by_2(self):
        self.assertEqual(batches(100, 5, [110, 110]), [0])
        self.assertEqual(batches(100, 5, [110, 111]), [0])
        self.assertEqual(batches(100, 5, [111, 110]), [0])

    def test_two_in_a_row_on_one_side(self):
        self.assertEqual(batches(100, 5, [111, 111]), [2])
        self.assertEqual(batches(100, 5, [89, 89]), [2])

    def test_the_mean_between_two(self):
        self.assertEqual(batches(100, 5, [111, 100, 111]), [0])

    def test_at_a_batchs_end_and_at_the_next_ones_beginning(self):
        self.assertEqual(batches(100, 5, [100, 111], [111, 100]), [0, 2])
        self.assertEqual(batches(100, 5, [100, 89], [89, 100]), [0, 2])
        self.assertEqual(batches(100, 5, [111, 100], [111, 100]), [0, 0])

    def test_a_value_of_a_batch_that_was_out_is_not_before(self):
        self.assertEqual(batches(100, 5, [111, 111], [111], [111]), [2, 0, 2])


class Rule4(unittest.TestCase):
    def test_two_far_apart_within_a_batch(self):
        self.assertEqual(batches(100, 5, [111, 89]), [4])
        self.assertEqual(batches(100, 5, [89, 111]), [4])

    def test_with_others_between(self):
        self.assertEqual(batches(100, 5, [111, 100, 95, 101, 100, 99, 100, 89]), [4])
        self.assertEqual(batches(100, 5, [89, 100, 95, 101, 100, 99, 100, 111]), [4])

    def test_just_2_spreads_on_one_of_the_sides(self):
        self.assertEqual(batches(100, 5, [110, 89]), [0])
        self.assertEqual(batches(100, 5, [111, 90]), [0])

    def test_two_far_apart_in_two_batches(self):
        self.assertEqual(batches(100, 5, [111], [89]), [0, 0])
        self.assertEqual(batches(100, 5, [89], [111]), [0, 0])


class Rule8(unittest.TestCase):
    def test_four_in_a_row_far_by_1(self):
        self.assertEqual(batches(100, 5, [106, 106, 106, 106]), [8])
        self.assertEqual(batches(100, 5, [94, 94, 94, 94]), [8])

    def test_three_are_too_few(self):
        self.assertEqual(batches(100, 5, [106, 106, 106]), [0])
        self.assertEqual(batches(100, 5, [106, 106, 106, 100, 106, 106, 106]), [0])

    def test_just_1_spread_is_not_far_by_1(self):
        for i in range(4):
            row = [106] * 4
            row[i] = 105
            self.assertEqual(batches(100, 5, row), [0])

    def test_on_two_sides(self):
        self.assertEqual(batches(100, 5, [106, 106, 94, 106, 106, 106, 94]), [0])

    def test_over_batches(self):
        self.assertEqual(batches(100, 5, [106], [106], [106], [106]), [0, 0, 0, 8])
        self.assertEqual(batches(100, 5, [100, 94, 94], [94, 94, 100]), [0, 8])


class Rule16(unittest.TestCase):
    def test_ten_on_one_side_over_two_batches(self):
        self.assertEqual(batches(100, 5, [101] * 8, [101] * 2), [0, 16])
        self.assertEqual(batches(100, 5, [99] * 5, [99] * 5), [0, 16])

    def test_nine_are_too_few(self):
        self.assertEqual(batches(100, 5, [101] * 8, [101]), [0, 0])
        self.assertEqual(batches(100, 5, [101] * 8, [101], [101]), [0, 0, 16])

    def test_the_mean_between_them(self):
        self.assertEqual(batches(100, 5, [101] * 8, [101, 100] + [101] * 6), [0, 0])
        self.assertEqual(batches(100, 5, [100] + [101] * 7, [101] * 2), [0, 0])
        self.assertEqual(batches(100, 5, [100] + [101] * 7, [101] * 3), [0, 16])

    def test_the_other_side_between_them(self):
        self.assertEqual(batches(100, 5, [101] * 8, [99] + [101] * 7), [0, 0])

    def test_the_mean_is_on_no_side(self):
        self.assertEqual(batches(100, 5, [100] * 8, [100] * 8, [100] * 8), [0, 0, 0])


class ManyRules(unittest.TestCase):
    def test_all_of_them(self):
        self.assertEqual(batches(100, 5, [101] * 8, [101, 106, 106, 106, 111, 116, 100, 84]), [0, 31])

    def test_values_of_a_batch_come_behind_one_another_though_one_is_far(self):
        self.assertEqual(batches(100, 5, [116, 111, 106, 106]), [1 + 2 + 8])


class Count(unittest.TestCase):
    def test_grows_with_batches_that_are_in(self):
        calls = [start_controls(0, 10), count(), batch(1), count(), batch(0, -1, 2), count(), batch(*[0] * 8), count()]
        self.assertEqual(ask(*calls), [0, 0, 0, 1, 0, 4, 0, 12])

    def test_none_counts_behind_a_batch_that_was_out(self):
        calls = [start_controls(0, 10), batch(1, 2, 3), batch(0, 31), count(), batch(1), count()]
        self.assertEqual(ask(*calls), [0, 0, 1, 0, 0, 1])

    def test_many(self):
        calls = [start_controls(0, 10)] + [batch(*[0] * 8)] * 2900 + [count()]
        self.assertEqual(ask(*calls)[-1], 8 * 2900)

    def test_a_million_at_most(self):
        controls = Controls()
        controls.start(0, 10)
        for _ in range(125000 - 1):
            controls.batch([0] * 8)
        controls.batch([0] * 7)
        self.assertEqual(controls.how_many(), 999999)
        controls.batch([0])
        self.assertEqual(controls.how_many(), 1000000)
        controls.batch([0])
        self.assertEqual(controls.how_many(), 1000000)
        controls.batch([31])
        self.assertEqual(controls.how_many(), 0)


class WhatHolds(unittest.TestCase):
    def controls(self):
        chance = random.Random(1)
        for mean, spread in ((0, 1), (100, 5), (-10 ** 9, 10 ** 6), (10 ** 9, 10 ** 6), (7, 2), (-3, 1000)):
            yield mean, spread, rows(chance, mean, spread, 600)

    def test_each_rule_is_as_the_document_tells_it(self):
        seen = 0
        for mean, spread, rows in self.controls():
            model = ControlsModel()
            calls = [start_controls(mean, spread)]
            told = [model.start(mean, spread)]
            for row in rows:
                calls += [batch(*row), count()]
                told += [model.batch(*row), model.count()]
                seen |= told[-2]
            self.assertEqual(ask(*calls), told)
        self.assertEqual(seen, 31)

    def test_the_other_side_of_the_mean_is_answered_the_same(self):
        for mean, spread, rows in self.controls():
            mirrored = [[2 * mean - value for value in row] for row in rows]
            self.assertEqual(batches(mean, spread, *mirrored), batches(mean, spread, *rows))

    def test_a_batch_of_means_is_in_whatever_came(self):
        for mean, spread, rows in self.controls():
            for row in rows[:50]:
                self.assertEqual(batches(mean, spread, row, [mean] * (len(row))).pop(), 0)

    def test_it_hangs_on_the_last_nine_that_count(self):
        for older in ([[0]], [[1]], [[-25]], [[11, 11, 11, 0, 1]], [[5] * 8, [0] * 8]):
            nine = [[0, 1, 1, 1, 1], [1, 1, 1, 1]]
            for row, answer in (([1], 0), ([1, 1, 1, 1, 1, 1], 16), ([-25], 0), ([11, 11, 11, 11], 8 + 16)):
                self.assertEqual(batches(0, 10, *nine, row)[-1], answer)
                self.assertEqual(batches(0, 10, *older, *nine, row)[-1], answer)

    def test_the_ninth_before_is_looked_at(self):
        self.assertEqual(batches(0, 10, [1], [1] * 8, [1])[-1], 16)
        self.assertEqual(batches(0, 10, [0], [1] * 8, [1])[-1], 0)


if __name__ == "__main__":
    unittest.main()
