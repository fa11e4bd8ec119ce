"""Promises 6 and 7: depth and stand with loads, with -3, -1, -9 and -5."""

import unittest
from fractions import Fraction
from math import ceil

from asking import BOX, EVENED, NOTHING, OVERFULL, SWING, TAPER, WEDGE, asked
from hullafloat.desk import answers
from reference import GREATEST, GREATEST_ARGUMENT, LEAST_ARGUMENT, Hull
from reference import area, depth, make, meta, rising, scattered, split, stand, told, volume

HEAVIEST = 2 ** 64 - 1
FAR = (LEAST_ARGUMENT, -2 ** 63, -2 ** 32, 2 ** 65, GREATEST_ARGUMENT)
# Her battens swing so far that she carries the heaviest loads.
VAST = ([0, 1, GREATEST], [0, 1, 2000], [0] * 3 + [0, GREATEST, 0] + [0] * 3)


def depths(table, *weights):
    """What depth answers of each weight as one load at 0."""
    return asked(table, *[depth([weight], [0]) for weight in weights])


def stands(table, *loads):
    """What stand answers of each pair of a weight and a height as one load."""
    return asked(table, *[stand([weight], [height]) for weight, height in loads])


class Depth(unittest.TestCase):
    def test_box(self):
        # 60z is the volume: just the weight, one more, one less.
        self.assertEqual(depths(BOX, 1, 59, 60, 61, 120, 121, 239, 240),
                         [[0, 1], [0, 1], [0, 1], [0, 2], [0, 2], [0, 3], [0, 4], [0, 4]])

    def test_wedge(self):
        # 10z^2 is the volume.
        self.assertEqual(depths(WEDGE, 1, 10, 11, 40, 41, 90, 91, 160),
                         [[0, 1], [0, 1], [0, 2], [0, 2], [0, 3], [0, 3], [0, 4], [0, 4]])

    def test_a_volume_between_whole_numbers(self):
        # z^2/6 is the volume: 1/6, 2/3, 3/2, 8/3, 25/6, 6.
        table = ([0, 1], [0, 6], [0, 0, 1, 1])
        self.assertEqual(depths(table, 1, 2, 3, 4, 5, 6, 7),
                         [[0, 3], [0, 4], [0, 5], [0, 5], [0, 6], [0, 6], [-5]])

    def test_levels_below_0(self):
        table = ([7, 17], [-7, -3], [3] * 4)
        self.assertEqual(depths(table, 1, 60, 61, 181, 240, 241),
                         [[0, -6], [0, -6], [0, -5], [0, -3], [0, -3], [-5]])
        self.assertEqual(depths(([0, 10], [-2, 2], [3] * 4), 120), [[0, 0]])

    def test_the_loads_are_added(self):
        self.assertEqual(asked(BOX, depth([20, 20, 20], [0, 1, 2]), depth([20, 21, 20], [0, 1, 2]),
                               depth([0, 60, 0], [0, 1, 2]), depth([1] * 61, [0] * 61)),
                         [[0, 1], [0, 2], [0, 1], [0, 2]])

    def test_the_heights_of_loads_do_not_count(self):
        for height in (-GREATEST, -1, 0, 7, GREATEST):
            self.assertEqual(asked(BOX, depth([100], [height])), [[0, 2]])

    def test_just_carried_at_the_last_level_and_nowhere(self):
        self.assertEqual(depths(BOX, 240, 241, HEAVIEST), [[0, 4], [-5], [-5]])
        self.assertEqual(depths(WEDGE, 160, 161), [[0, 4], [-5]])
        self.assertEqual(depths(TAPER, 72, 73), [[0, 2], [-5]])
        self.assertEqual(depths(NOTHING, 1, HEAVIEST), [[-5], [-5]])

    def test_the_least_height_where_the_volume_falls_again(self):
        # 25/4 at 1, 0 at 2, 95/4 at 3, 120 at 4.
        self.assertEqual(depths(EVENED, 1, 6, 7, 23, 24, 120, 121),
                         [[0, 1], [0, 1], [0, 3], [0, 3], [0, 4], [0, 4], [-5]])

    def test_more_is_carried_further_down_than_at_the_last_level(self):
        # 445/8 at 1, 70 at 2, 515/8 at 3, 60 at 4.
        self.assertEqual(asked(OVERFULL, *[volume(z) for z in range(1, 5)]),
                         [[0, 445, 8], [0, 70, 1], [0, 515, 8], [0, 60, 1]])
        self.assertEqual(depths(OVERFULL, 55, 56, 60, 61, 65, 70, 71),
                         [[0, 1], [0, 2], [0, 2], [0, 2], [0, 2], [0, 2], [-5]])

    def test_a_volume_below_0_carries_nothing(self):
        # -35/8 at 1, -10 at 2, 35/8 at 3, 60 at 4.
        self.assertEqual(depths(SWING, 1, 4, 5, 60, 61), [[0, 3], [0, 3], [0, 4], [0, 4], [-5]])

    def test_levels_one_apart(self):
        self.assertEqual(depths(([0, 1], [0, 1], [1] * 4), 1, 2, 3), [[0, 1], [0, 1], [-5]])


class Stand(unittest.TestCase):
    def test_box_above_0_0_and_below(self):
        # The metacentre at 2 is 5/2 high.
        self.assertEqual(stands(BOX, (120, 2), (120, 3), (61, 2), (120, 0), (120, -4)),
                         [[0, 1, 2], [0, -1, 2], [0, 1, 2], [0, 5, 2], [0, 13, 2]])
        self.assertEqual(asked(BOX, stand([60, 60], [2, 3]), stand([1, 119], [2, 3])),
                         [[0, 0, 1], [0, -59, 120]])

    def test_0_is_0_1(self):
        # At 3 the wedge's metacentre is 4 high.
        self.assertEqual(stands(WEDGE, (41, 4), (90, 4), (90, 3), (90, 5)),
                         [[0, 0, 1], [0, 0, 1], [0, 1, 1], [0, -1, 1]])

    def test_the_loads_height_is_by_their_weight(self):
        # 10 at 7 and 20 at -2 lie 1 high, 1 at 1 and 2 at 0 a third; the metacentre at 1 is 7/2 high.
        self.assertEqual(asked(BOX, stand([10, 20], [7, -2]), stand([1, 2], [1, 0]), stand([2, 1], [1, 0])),
                         [[0, 5, 2], [0, 19, 6], [0, 17, 6]])

    def test_weights_of_0_count_nothing(self):
        self.assertEqual(asked(BOX, stand([0, 60, 0], [GREATEST, 3, -GREATEST])), [[0, 1, 2]])

    def test_at_the_height_at_which_she_floats(self):
        # At 1 the metacentre is 43/300 high, though 3 would do for 6 too.
        self.assertEqual(stands(EVENED, (6, 0), (6, 1)), [[0, 43, 300], [0, -257, 300]])

    def test_greatest_and_least_heights(self):
        self.assertEqual(stands(WEDGE, (90, GREATEST), (90, -GREATEST)),
                         [[0, 4 - GREATEST, 1], [0, 4 + GREATEST, 1]])

    def test_levels_below_0(self):
        # The box 7 further down: her metacentre at -6 is 7/2 less 7 high.
        self.assertEqual(stands(([7, 17], [-7, -3], [3] * 4), (60, -4), (60, -3)), [[0, 1, 2], [0, -1, 2]])

    def test_carried_nowhere(self):
        self.assertEqual(stands(BOX, (240, 0), (241, 0), (HEAVIEST, 0)), [[0, 11, 4], [-5], [-5]])
        self.assertEqual(stands(OVERFULL, (71, 0)), [[-5]])
        self.assertEqual(stands(NOTHING, (1, 0)), [[-5]])


class NoLoads(unittest.TestCase):
    """-1 of depth and stand."""

    def refused(self, weights, heights):
        # What stands behind the loads is read from its own beginning.
        self.assertEqual(asked(BOX, depth(weights, heights), stand(weights, heights), area(0)),
                         [[-1], [-1], [0, 60, 1]])

    def test_not_as_many_weights_as_heights(self):
        for weights, heights in ((1, 0), (0, 1), (2, 1), (1, 2), (256, 255), (255, 256), (256, 257), (257, 256),
                                 (400, 0), (0, 400)):
            self.refused([1] * weights, [0] * heights)

    def test_more_than_256(self):
        self.assertEqual(asked(BOX, depth([1] * 255, [0] * 255)), [[-5]])
        self.assertEqual(asked(WEDGE, depth([0] * 255 + [90], [4] * 256), stand([0] * 255 + [90], [4] * 256)),
                         [[0, 3], [0, 0, 1]])
        for count in (257, 258, 400):
            self.refused([0] * (count - 1) + [90], [4] * count)
            self.refused([0] * count, [4] * count)

    def test_weights(self):
        for weight in (-1, -2, 2 ** 64, 2 ** 64 + 1) + FAR:
            for at in range(3):
                weights = [1, 2, 3]
                weights[at] = weight
                self.refused(weights, [0, 0, 0])
            self.refused([weight], [0])
        # A weight below 0 is told even where the sum would do.
        self.refused([-1, 61], [0, 0])

    def test_heights(self):
        for height in (-GREATEST - 1, GREATEST + 1, HEAVIEST) + FAR:
            for at in range(3):
                heights = [1, 2, 3]
                heights[at] = height
                self.refused([20, 0, 20], heights)
            self.refused([1], [height])

    def test_the_last_that_are_loads(self):
        self.assertEqual(asked(BOX, depth([0, 60], [-GREATEST, GREATEST]), depth([HEAVIEST], [GREATEST])),
                         [[0, 1], [-5]])


class NoDepths(unittest.TestCase):
    """-9 of depth and stand."""

    def test_no_weight(self):
        for count in (0, 1, 2, 256):
            for table in (BOX, NOTHING, EVENED):
                self.assertEqual(asked(table, depth([0] * count, [5] * count), stand([0] * count, [5] * count)),
                                 [[-9], [-9]])
        self.assertEqual(asked(BOX, depth([1], [5]), depth([0, 1], [5, 5])), [[0, 1]] * 2)

    def test_last_level_above_the_first(self):
        for first in (-GREATEST, -2000, -7, 0, GREATEST - 2001):
            high = ([0, 10], [first, first + 2001], [3] * 4)
            self.assertEqual(asked(high, depth([60], [0]), stand([60], [0]), depth([HEAVIEST], [0])), [[-9]] * 3)
            self.assertEqual(asked(high, volume(first + 2001)), [[0, 60 * 2001, 1]])
            low = ([0, 10], [first, first + 2000], [3] * 4)
            self.assertEqual(asked(low, depth([60], [0]), depth([60 * 2000], [0]), depth([60 * 2000 + 1], [0])),
                             [[0, first + 1], [0, first + 2000], [-5]])
            self.assertEqual(asked(low, stand([60 * 2000], [first]))[0], [0, *told(1000 + Fraction(3, 2000))])

    def test_levels_far_apart(self):
        table = ([0, 10], [-GREATEST, 0, GREATEST], [3] * 6)
        self.assertEqual(asked(table, depth([60], [0]), stand([60], [0])), [[-9], [-9]])
        # Only the first and the last count.
        table = ([0, 10], [0, 1999, 2000], [3] * 6)
        self.assertEqual(asked(table, depth([60], [0])), [[0, 1]])
        table = ([0, 10], [0, 1000, 2001], [3] * 6)
        self.assertEqual(asked(table, depth([60], [0])), [[-9]])


class Order(unittest.TestCase):
    HIGH = ([0, 10], [0, 2001], [3] * 4)

    def test_no_table_first(self):
        wrong = ([], []), ([1], []), ([-1], [0]), ([0], [0]), ([1] * 257, [0] * 257), ([1], [FAR[0]]), ([60], [0])
        for weights, heights in wrong:
            self.assertEqual(answers(depth(weights, heights)), [1, -3])
            self.assertEqual(answers(stand(weights, heights)), [1, -3])

    def test_no_loads_ahead_of_no_depths(self):
        wrong = ([0], []), ([], [0]), ([0], [GREATEST + 1]), ([0] * 257, [0] * 257), ([-1, 1], [0, 0]), ([-1], [0])
        for weights, heights in wrong:
            for table in (BOX, self.HIGH, NOTHING):
                self.assertEqual(asked(table, depth(weights, heights), stand(weights, heights)), [[-1]] * 2)

    def test_no_loads_ahead_of_no_height(self):
        for table in (BOX, self.HIGH, NOTHING):
            self.assertEqual(asked(table, depth([2 ** 64], [0]), stand([2 ** 64], [0])), [[-1]] * 2)
            self.assertEqual(asked(table, depth([HEAVIEST, 1], [0]), stand([HEAVIEST], [-GREATEST - 1])), [[-1]] * 2)

    def test_no_depths_ahead_of_no_height(self):
        empty = ([0, 10], [0, 2001], [0] * 4)
        self.assertEqual(asked(empty, depth([1], [0]), stand([HEAVIEST], [0])), [[-9]] * 2)
        self.assertEqual(asked(NOTHING, depth([0], [0]), stand([], []), depth([1], [0])), [[-9], [-9], [-5]])


class Objects(unittest.TestCase):
    def test_a_refusal_leaves_the_object_as_it_was(self):
        refused = [depth([1], []), stand([0], [0]), depth([241], [0]), stand([-1], [0]), stand([241], [0])]
        told_first = asked(BOX, depth([61], [0]), stand([61], [0]), meta(3))
        self.assertEqual(asked(BOX, *refused, depth([61], [0]), stand([61], [0]), meta(3))[5:], told_first)

    def test_answers_of_loads_do_not_hang_on_those_before(self):
        calls = [depth([200], [0]), depth([1], [0]), stand([100], [1]), depth([241], [0]), depth([61], [0]),
                 stand([100], [1])]
        self.assertEqual(asked(BOX, *calls), [[0, 4], [0, 1], [0, 3, 2], [-5], [0, 2], [0, 3, 2]])

    def test_a_second_make_takes_the_first_ones_place(self):
        load = depth([60], [0]) + stand([60], [0])
        calls = make(*BOX) + load + make(*WEDGE) + load + make([0], [], []) + load + make(*Order.HIGH) + load
        self.assertEqual(split(answers(calls)),
                         [[0, 0, 0], [0, 1], [0, 7, 2], [0, 0, 0], [0, 3], [0, 4, 1], [0, 2, 0], [0, 3], [0, 4, 1],
                          [0, 0, 0], [-9], [-9]])


class AgainstTheDefinition(unittest.TestCase):
    def compare(self, hull, table, weights):
        heights = range(table[1][0], table[1][-1] + 1)
        volumes = [(z, hull.volume(z)) for z in heights]
        calls = []
        expected = []
        for k, weight in enumerate(weights):
            loads = ([weight, 2 * weight], [7 * k, -3])
            lever = Fraction(7 * k - 6, 3)
            floats = [z for z, amount in volumes if amount >= 3 * weight][:1]
            calls += [depth(*loads), stand(*loads)]
            expected += [[0, z] for z in floats] + [[0, *told(hull.metacentre(z) - lever)] for z in floats]
            expected += [[-5], [-5]] if floats == [] else []
        self.assertEqual(asked(table, *calls), expected)

    def test_small_tables(self):
        for seed in range(8):
            stations = 2 + seed % 4
            levels = 2 + seed // 2
            heights = rising(seed + 300, levels, seed - 9, 3)
            table = (rising(seed, stations, seed % 3, 9), heights, scattered(seed + 400, stations * levels, 20))
            hull = Hull(*table)
            weights = [ceil(hull.volume(z) / 3) + more for z in heights for more in (-1, 0, 1)]
            self.compare(hull, table, [weight for weight in weights if weight > 0])

    def test_swinging_tables(self):
        for rows in ([9, 0, 0, 9], [9, 0, 9, 0], [1, 0, 0, 20], [20, 0, 0, 1], [0, 9, 0, 0]):
            table = ([0, 5, 7], [-3, 0, 4, 5], [row * part for row in rows for part in (1, 0, 2)])
            self.compare(Hull(*table), table, [1, 2, 5, 13, 30, 60, 120])


class ManyHeights(unittest.TestCase):
    """The depth is the first of all whole heights whose volume, as the program tells it, is the weight or more."""

    def volumes(self, table):
        heights = list(range(table[1][0], table[1][-1] + 1))
        amounts = []
        for start in range(0, len(heights), 299):
            told_here = asked(table, *[volume(z) for z in heights[start:start + 299]])
            amounts += [Fraction(above, below) for zero, above, below in told_here]
        return list(zip(heights, amounts))

    def compare(self, table):
        volumes = self.volumes(table)
        # Shared out over 256 loads more would be too much for one of them.
        most = min(max(amount for z, amount in volumes), 255 * HEAVIEST)
        weights = [ceil(most * k / 40) for k in range(1, 41)] + [ceil(most) + 1]
        weights += [max(1, min(ceil(amount) + k % 2, 255 * HEAVIEST)) for k, (z, amount) in enumerate(volumes[::40])]
        expected = []
        for weight in weights:
            floats = [z for z, amount in volumes if amount >= weight][:1]
            expected.append([0] + floats if floats else [-5])
        calls = [depth([weight // 256 + (weight % 256 if k == 0 else 0) for k in range(256)], [0] * 256)
                 for weight in weights]
        for start in range(0, len(calls), 25):
            self.assertEqual(asked(table, *calls[start:start + 25]), expected[start:start + 25])
        return volumes

    def test_2000_heights(self):
        self.compare(([0, 11, 13], [-1000, 1000], [0, 7, 1, 5, 0, 3]))

    def test_2000_heights_with_swings(self):
        volumes = self.compare(([0, 10, 300], [5, 700, 710, 1400, 1405, 2005],
                                [0, 9, 7, 90, 9, 0, 0, 0, 1, 70, 9, 9, 0, 0, 9, 5, 0, 900]))
        falls = [z for (z, amount), (after, next_amount) in zip(volumes, volumes[1:]) if next_amount < amount]
        self.assertGreater(len(falls), 100)

    def test_most_stations_and_levels_and_greatest_measures(self):
        heights = rising(21, 15, -GREATEST, 120)
        heights.append(heights[0] + 2000)
        places = rising(22, 23, 0, 40000) + [GREATEST]
        self.compare((places, heights, [number * GREATEST // 9 for number in scattered(23, 384, 10)]))

    def test_heaviest_loads(self):
        self.compare(VAST)


class Greatest(unittest.TestCase):
    def test_heaviest_loads_carried(self):
        loads = ([HEAVIEST] * 256, [GREATEST] * 256)
        floats = asked(VAST, depth(*loads))[0][1]
        weight = 256 * HEAVIEST
        answered = asked(VAST, volume(floats - 1), volume(floats), meta(floats), stand(*loads),
                         stand(loads[0], [-GREATEST] * 256), stand(loads[0], [GREATEST, -GREATEST] * 128))
        self.assertLess(Fraction(*answered[0][1:]), weight)
        self.assertGreaterEqual(Fraction(*answered[1][1:]), weight)
        high = Fraction(*answered[2][1:])
        self.assertEqual(answered[3:], [[0, *told(high - GREATEST)], [0, *told(high + GREATEST)], answered[2]])

    def test_greatest_box(self):
        table = ([0, GREATEST], [GREATEST - 2000, GREATEST], [GREATEST] * 4)
        flat = 2 * GREATEST * GREATEST
        self.assertEqual(depths(table, 1, flat, flat + 1, 2000 * flat, 2000 * flat + 1),
                         [[0, GREATEST - 1999], [0, GREATEST - 1999], [0, GREATEST - 1998], [0, GREATEST], [-5]])
        self.assertEqual(stands(table, (flat, GREATEST)),
                         [[0, *told(Fraction(GREATEST ** 2, 3) + Fraction(1, 2) - 2000)]])


if __name__ == "__main__":
    unittest.main()
