"""Part 2: start, sample, take, use, put, at, of, sum, and what holds."""

import random
import unittest

from tests.chance import told, tubes_calls, written
from tests.lines import ask, at, of, put, sample, start_tubes, sum_of, take, use

HIGHEST = 2 ** 32 - 1


def tubes(*calls):
    """What each call is answered, of tubes that are new."""
    return ask(start_tubes(), *calls)[1:]


class Start(unittest.TestCase):
    def test_answers_0(self):
        self.assertEqual(ask(start_tubes()), [0])

    def test_no_tubes(self):
        self.assertEqual(tubes(of(0), at(0, 0), use(0, 1), take(0, 1), put(0, 0, 0), sum_of(0)), [-2] * 6)

    def test_comes_again(self):
        calls = [sample(5, 10), put(0, 3, 4), start_tubes(), of(0), at(3, 4), sample(6, 20), of(0), at(3, 4)]
        self.assertEqual(tubes(*calls), [0, 0, 0, -2, -2, 0, (0, 6, 0, 20, 0), -2])

    def test_comes_again_behind_256(self):
        calls = [sample(5, 10)] * 257 + [start_tubes(), sample(5, 10), of(1)]
        self.assertEqual(tubes(*calls)[-4:], [-28, 0, 0, -2])


class Sample(unittest.TestCase):
    def test_is_numbered_as_it_came(self):
        calls = [sample(5, 10), sample(0, HIGHEST), sample(HIGHEST, 1), of(0), of(1), of(2)]
        told = [0, 1, 2, (0, 5, 0, 10, 0), (0, 0, 1, HIGHEST, 0), (0, HIGHEST, 2, 1, 0)]
        self.assertEqual(tubes(*calls), told)

    def test_refusals(self):
        full = [sample(5, 10)] * 256
        self.assertEqual(tubes(sample(5, 0), of(0), sample(5, 1)), [-22, -2, 0])
        self.assertEqual(tubes(*full, sample(5, 1), of(256))[-3:], [255, -28, -2])
        self.assertEqual(tubes(*full, sample(5, 0))[-1], -22)


class Take(unittest.TestCase):
    def test_some(self):
        calls = [sample(5, 10), take(0, 3), of(0), of(1), take(1, 2), of(1), of(2)]
        told = [0, 1, (0, 5, 0, 7, 0), (0, 5, 0, 3, 1), 2, (0, 5, 0, 1, 1), (0, 5, 0, 2, 2)]
        self.assertEqual(tubes(*calls), told)

    def test_of_a_sample_that_is_not_the_first(self):
        calls = [sample(5, 10), sample(6, 20), take(1, 3), take(2, 1), of(3), of(0)]
        self.assertEqual(tubes(*calls)[-2:], [(0, 6, 1, 1, 2), (0, 5, 0, 10, 0)])

    def test_all_of_a_tube(self):
        calls = [sample(5, 10), take(0, 10), of(0), of(1), take(0, 1), use(0, 1)]
        self.assertEqual(tubes(*calls), [0, 1, (0, 5, 0, 0, 0), (0, 5, 0, 10, 1), -61, -61])

    def test_from_one_whose_own_is_empty_then(self):
        calls = [sample(5, 10), take(0, 10), take(1, 10), of(0), of(1), of(2), take(1, 1), take(2, 4), of(3)]
        told = [0, 1, 2, (0, 5, 0, 0, 0), (0, 5, 0, 0, 1), (0, 5, 0, 10, 2), -61, 3, (0, 5, 0, 4, 3)]
        self.assertEqual(tubes(*calls), told)

    def test_a_volume_of_2_to_the_32_less_1(self):
        calls = [sample(5, HIGHEST), take(0, HIGHEST), of(0), of(1)]
        self.assertEqual(tubes(*calls), [0, 1, (0, 5, 0, 0, 0), (0, 5, 0, HIGHEST, 1)])
        self.assertEqual(tubes(sample(5, HIGHEST - 1), take(0, HIGHEST), of(0))[1:], [-61, (0, 5, 0, HIGHEST - 1, 0)])

    def test_256_tubes_and_depth_255(self):
        calls = [sample(5, 300)] + [take(i, 300 - i - 1) for i in range(255)] + [of(255), take(255, 1), of(255), of(256)]
        deepest = (0, 5, 0, 45, 255)
        self.assertEqual(tubes(*calls), list(range(256)) + [deepest, -28, deepest, -2])

    def test_it_stands_nowhere_though_the_other_stands(self):
        calls = [sample(5, 10), put(0, 0, 0), take(0, 3), at(0, 0), put(1, 0, 0), put(1, 0, 1), at(0, 1)]
        self.assertEqual(tubes(*calls), [0, 0, 1, 0, -17, 0, 1])

    def test_refusals_change_nothing(self):
        calls = [sample(5, 10), take(0, 0), take(1, 1), take(HIGHEST, 1), take(0, 11), of(0), of(1), take(0, 10)]
        self.assertEqual(tubes(*calls), [0, -22, -2, -2, -61, (0, 5, 0, 10, 0), -2, 1])

    def test_of_two_refusals_the_one_told_first(self):
        full = [sample(5, 10)] * 256
        for call, answer in ((take(256, 0), -22), (take(0, 0), -22), (take(256, 1), -2), (take(0, 11), -61),
                             (take(0, 10), -28)):
            self.assertEqual(tubes(*full, call, of(0))[-2:], [answer, (0, 5, 0, 10, 0)])
        self.assertEqual(tubes(take(0, 0)), [-22])


class Use(unittest.TestCase):
    def test_some_and_all(self):
        calls = [sample(5, 10), use(0, 3), of(0), use(0, 7), of(0), use(0, 1)]
        self.assertEqual(tubes(*calls), [0, 7, (0, 5, 0, 7, 0), 0, (0, 5, 0, 0, 0), -61])

    def test_of_a_taken_one_leaves_the_other(self):
        calls = [sample(5, 10), take(0, 4), use(1, 3), of(0), of(1)]
        self.assertEqual(tubes(*calls)[2:], [1, (0, 5, 0, 6, 0), (0, 5, 0, 1, 1)])

    def test_what_is_left_modulo_2_to_the_31(self):
        for left, answer in ((2 ** 31 - 1, 2 ** 31 - 1), (2 ** 31, 0), (2 ** 31 + 1, 1), (HIGHEST - 1, 2 ** 31 - 2)):
            calls = [sample(5, HIGHEST), use(0, HIGHEST - left), of(0)]
            self.assertEqual(tubes(*calls), [0, answer, (0, 5, 0, left, 0)])

    def test_refusals_change_nothing(self):
        calls = [sample(5, 10), use(0, 0), use(1, 1), use(HIGHEST, 1), use(0, 11), use(0, HIGHEST), of(0)]
        self.assertEqual(tubes(*calls), [0, -22, -2, -2, -61, -61, (0, 5, 0, 10, 0)])

    def test_of_two_refusals_the_one_told_first(self):
        self.assertEqual(tubes(use(0, 0), use(0, 1)), [-22, -2])

    def test_with_256_tubes(self):
        self.assertEqual(tubes(*[sample(5, 10)] * 256, use(255, 4))[-1], 6)


class PutAndAt(unittest.TestCase):
    def test_each_corner_of_the_racks(self):
        for rack in (0, 15):
            for place in (0, 95):
                calls = [sample(5, 10), at(rack, place), put(0, rack, place), at(rack, place)]
                self.assertEqual(tubes(*calls), [0, -2, 0, 0])

    def test_every_place_is_another(self):
        spots = [(rack, place) for rack in range(16) for place in range(96)]
        for many in range(0, len(spots), 256):
            some = spots[many:many + 256]
            calls = [sample(5, 1)] * 256 + [put(i, *spot) for i, spot in enumerate(some)] + [at(*spot) for spot in spots]
            expected = [some.index(spot) if spot in some else -2 for spot in spots]
            self.assertEqual(tubes(*calls), list(range(256)) + [0] * 256 + expected)

    def test_no_such_rack_or_place(self):
        for rack, place in ((16, 0), (0, 96), (16, 96), (HIGHEST, 0), (0, HIGHEST), (14, 96)):
            calls = [sample(5, 10), put(0, rack, place), at(rack, place), at(15, 0), at(1, 0)]
            self.assertEqual(tubes(*calls), [0, -22, -22, -2, -2])

    def test_no_such_tube(self):
        self.assertEqual(tubes(sample(5, 10), put(1, 0, 0), put(HIGHEST, 0, 0), at(0, 0)), [0, -2, -2, -2])

    def test_where_it_stands(self):
        self.assertEqual(tubes(sample(5, 10), put(0, 2, 3), put(0, 2, 3), at(2, 3)), [0, 0, 0, 0])

    def test_where_another_one_stands(self):
        calls = [sample(5, 10), sample(6, 10), put(0, 2, 3), put(1, 2, 4), put(1, 2, 3), at(2, 3), at(2, 4)]
        self.assertEqual(tubes(*calls), [0, 1, 0, 0, -17, 0, 1])

    def test_elsewhere_it_stands_there_alone(self):
        calls = [sample(5, 10), sample(6, 10), put(0, 2, 3), put(0, 4, 5), at(2, 3), at(4, 5), put(1, 2, 3), at(2, 3)]
        self.assertEqual(tubes(*calls), [0, 1, 0, 0, -2, 0, 0, 1])

    def test_of_two_refusals_the_one_told_first(self):
        stands = [sample(5, 10), put(0, 0, 0)]
        self.assertEqual(tubes(*stands, put(1, 16, 0))[-1], -22)
        self.assertEqual(tubes(*stands, put(1, 0, 96))[-1], -22)
        self.assertEqual(tubes(*stands, put(1, 0, 0))[-1], -2)

    def test_an_empty_one_stands_still(self):
        self.assertEqual(tubes(sample(5, 10), put(0, 1, 1), use(0, 10), at(1, 1), put(0, 1, 2), at(1, 2))[-3:], [0, 0, 0])


class Of(unittest.TestCase):
    def test_no_such_tube(self):
        self.assertEqual(tubes(of(0), sample(5, 10), of(1), of(256), of(HIGHEST)), [-2, 0, -2, -2, -2])

    def test_nothing_is_changed_by_asking(self):
        calls = [sample(5, 10), take(0, 1), of(1), of(1), of(0), of(0)]
        self.assertEqual(tubes(*calls)[2:], [(0, 5, 0, 1, 1)] * 2 + [(0, 5, 0, 9, 0)] * 2)


class Sum(unittest.TestCase):
    def test_of_a_sample_alone(self):
        calls = [sample(5, 10), sum_of(0), use(0, 4), sum_of(0), use(0, 6), sum_of(0)]
        self.assertEqual(tubes(*calls), [0, (1, 10, 0), 6, (1, 6, 4), 0, (1, 0, 10)])

    def test_what_is_taken_is_left_still(self):
        calls = [sample(5, 10), take(0, 3), sum_of(0), take(0, 7), sum_of(0), use(1, 3), use(2, 1), sum_of(0)]
        self.assertEqual(tubes(*calls), [0, 1, (2, 10, 0), 2, (3, 10, 0), 0, 6, (3, 6, 4)])

    def test_of_tubes_taken_from_tubes_taken_from_it(self):
        calls = [sample(5, 100), take(0, 60), take(1, 30), take(2, 15), use(0, 1), use(1, 2), use(2, 4), use(3, 8)]
        self.assertEqual(tubes(*calls, sum_of(0))[-1], (4, 85, 15))

    def test_of_several_samples_side_by_side(self):
        calls = [sample(5, 10), sample(5, 20), take(1, 8), sample(6, 30), take(2, 5), take(0, 1), use(4, 2), use(3, 7),
                 use(5, 1), use(1, 3), use(2, 1)]
        asked = tubes(*calls, *[sum_of(tube) for tube in range(7)])[-7:]
        self.assertEqual(asked, [(2, 9, 1), (3, 14, 6), -2, (1, 23, 7), -2, -2, -2])

    def test_of_a_tube_that_was_taken(self):
        calls = [sample(5, 10), take(0, 4), take(1, 2), sum_of(1), sum_of(2), take(0, 6), sum_of(3), sum_of(0)]
        self.assertEqual(tubes(*calls)[3:], [-2, -2, 3, -2, (4, 10, 0)])

    def test_of_one_that_is_not_there(self):
        self.assertEqual(tubes(sum_of(0), sample(5, 10), sum_of(1), sum_of(256), sum_of(HIGHEST)), [-2, 0, -2, -2, -2])

    def test_more_than_2_to_the_31_is_told_whole(self):
        for used in (1, 2 ** 31 - 1, 2 ** 31, 2 ** 31 + 1, HIGHEST - 1, HIGHEST):
            calls = [sample(5, HIGHEST), use(0, used), sum_of(0)]
            self.assertEqual(tubes(*calls)[-1], (1, HIGHEST - used, used))
        calls = [sample(5, HIGHEST), take(0, 2 ** 31), sum_of(0), use(1, 2 ** 31), use(0, 2 ** 31 - 1), sum_of(0)]
        self.assertEqual(tubes(*calls), [0, 1, (2, HIGHEST, 0), 0, 0, (2, 0, HIGHEST)])

    def test_of_256_tubes_one_from_another(self):
        calls = [sample(5, 300)] + [take(i, 300 - i - 1) for i in range(255)] + [use(i, 1) for i in range(256)]
        self.assertEqual(tubes(*calls, sum_of(0))[-1], (256, 44, 256))

    def test_refused_calls_count_for_nothing(self):
        calls = [sample(5, 10), take(0, 4), use(0, 7), use(1, 5), use(0, 0), take(1, 5), take(1, 0), use(2, 1), sum_of(0)]
        self.assertEqual(tubes(*calls)[-1], (2, 10, 0))

    def test_nothing_is_changed_by_asking(self):
        calls = [sample(5, 10), take(0, 3), use(1, 1), sum_of(0), sum_of(0), of(0), of(1), sum_of(1), sum_of(0)]
        self.assertEqual(tubes(*calls)[3:], [(2, 9, 1)] * 2 + [(0, 5, 0, 7, 0), (0, 5, 0, 2, 1), -2, (2, 9, 1)])

    def test_behind_a_start_that_comes_again(self):
        calls = [sample(5, 10), use(0, 4), start_tubes(), sum_of(0), sample(5, 10), sum_of(0)]
        self.assertEqual(tubes(*calls)[2:], [0, -2, 0, (1, 10, 0)])


class WhatHolds(unittest.TestCase):
    def test_each_call_is_as_the_document_tells_it(self):
        chance = random.Random(2)
        seen = set()
        for _ in range(4):
            calls = tubes_calls(chance, 3900)
            expected = told("tubes", calls)
            self.assertEqual(ask(*written("tubes", calls)), expected)
            seen |= {answer for answer in expected if not isinstance(answer, tuple)}
        self.assertLessEqual({-2, -17, -22, -28, -61, 255}, seen)

    def test_what_is_left_and_what_was_used_are_what_came(self):
        chance = random.Random(3)
        came = [1000, HIGHEST, 77]
        sums = [sum_of(number) for number in range(len(came))]
        calls = []
        for number, volume in enumerate(came):
            calls.append(sample(number + 10, volume))
        for _ in range(1100):
            volume = chance.choice((chance.randrange(9), chance.randrange(2 ** 31)))
            calls.append(chance.choice((take, use))(chance.randrange(60), volume))
            if chance.random() < 0.5:
                calls += sums
        answered = tubes(*calls, *sums)
        for call, answer in zip(calls + sums, answered):
            if call[0] == 17:
                self.assertEqual(answer[1] + answer[2], came[call[1]])
        for answer in answered[-3:]:
            self.assertGreater(min(answer), 1)

    def test_the_sum_is_of_the_tubes_of_the_sample(self):
        chance = random.Random(6)
        calls = [sample(number + 10, 500) for number in range(3)]
        for _ in range(900):
            calls.append(chance.choice((take, use))(chance.randrange(200), chance.randrange(9)))
        answered = tubes(*calls, *[of(tube) for tube in range(256)], *[sum_of(number) for number in range(3)])
        facts = [answer for answer in answered[len(calls):-3] if answer != -2]
        for number, answer in enumerate(answered[-3:]):
            own = [fact for fact in facts if fact[2] == number]
            used = [call[2] for call, left in zip(calls, answered) if call[0] == 13 and left >= 0
                    and facts[call[1]][2] == number]
            self.assertEqual(answer, (len(own), sum(fact[3] for fact in own), sum(used)))
            self.assertEqual({fact[1] for fact in own}, {number + 10})

    def test_each_tube_at_one_place_and_each_place_with_one_tube(self):
        chance = random.Random(4)
        spots = [(rack, place) for rack in (0, 15) for place in (0, 1, 94, 95)]
        calls = [sample(5, 1)] * 6
        for _ in range(300):
            calls.append(put(chance.randrange(6), *chance.choice(spots)))
            asked = tubes(*calls, *[at(*spot) for spot in spots])[-len(spots):]
            standing = [tube for tube in asked if tube != -2]
            self.assertEqual(len(standing), len(set(standing)))


if __name__ == "__main__":
    unittest.main()
