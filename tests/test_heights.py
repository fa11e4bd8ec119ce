"""Promises 2 to 5: area, volume, centre and meta at a height, with -3, -4 and -5."""

import unittest
from fractions import Fraction

from asking import BOX, BULGE, EVENED, NOTHING, OVERFULL, SWING, SWING_ALONG, TAPER, WEDGE, asked
from hullafloat.desk import answers
from reference import GREATEST, GREATEST_ARGUMENT, LEAST_ARGUMENT, Hull
from reference import area, centre, expected, make, meta, nine_points, rising, scattered, told, volume


class Area(unittest.TestCase):
    def test_box(self):
        self.assertEqual(asked(BOX, area(0), area(1), area(4)), [[0, 60, 1]] * 3)

    def test_wedge_at_levels_and_between(self):
        self.assertEqual(asked(WEDGE, area(0), area(1), area(3), area(4)),
                         [[0, 0, 1], [0, 20, 1], [0, 60, 1], [0, 80, 1]])

    def test_lowest_terms(self):
        table = ([0, 1], [0, 6], [0, 0, 1, 1])
        self.assertEqual(asked(table, *[area(z) for z in range(7)]),
                         [[0, 0, 1], [0, 1, 3], [0, 2, 3], [0, 1, 1], [0, 4, 3], [0, 5, 3], [0, 2, 1]])

    def test_three_stations(self):
        # The bend at the middle is -3: each half holds 1/2 and 3/24.
        self.assertEqual(asked(BULGE, area(0), area(1)), [[0, 5, 2]] * 2)

    def test_stations_unevenly_apart(self):
        # Nails (0,0) (1,1) (3,0): 6 times the bend is -9, so the integral is 3/2 and (1 + 8) 3/2 / 24.
        self.assertEqual(asked(([0, 1, 3], [0, 1], [0, 1, 0] * 2), area(0)), [[0, 33, 8]])

    def test_below_0_where_battens_swing(self):
        self.assertEqual(asked(SWING, area(1), area(2), area(3), area(4)),
                         [[0, -15, 2], [0, 0, 1], [0, 65, 2], [0, 80, 1]])

    def test_nothing_is_0_1(self):
        self.assertEqual(asked(NOTHING, area(0), area(2), area(4)), [[0, 0, 1]] * 3)

    def test_places_need_not_begin_at_0(self):
        self.assertEqual(asked(([7, 17], [-9, -5], [3] * 4), area(-9), area(-5)), [[0, 60, 1]] * 2)


class Volume(unittest.TestCase):
    def test_box(self):
        self.assertEqual(asked(BOX, volume(0), volume(1), volume(4)), [[0, 0, 1], [0, 60, 1], [0, 240, 1]])

    def test_wedge(self):
        self.assertEqual(asked(WEDGE, volume(1), volume(3), volume(4)), [[0, 10, 1], [0, 90, 1], [0, 160, 1]])

    def test_lowest_terms(self):
        # z/3 is the area, z^2/6 the volume.
        table = ([0, 1], [0, 6], [0, 0, 1, 1])
        self.assertEqual(asked(table, *[volume(z) for z in range(5)]),
                         [[0, 0, 1], [0, 1, 6], [0, 2, 3], [0, 3, 2], [0, 8, 3]])

    def test_from_the_first_level_wherever_it_lies(self):
        table = ([0, 10], [-7, -3], [3] * 4)
        self.assertEqual(asked(table, volume(-7), volume(-6), volume(-3)), [[0, 0, 1], [0, 60, 1], [0, 240, 1]])

    def test_below_0_and_over_a_level(self):
        # 20 times h^4/32 - h^2/4 to the middle level; from there on t^2/2 + t^3/4 - t^4/32 more.
        self.assertEqual(asked(SWING, volume(1), volume(2), volume(3), volume(4)),
                         [[0, -35, 8], [0, -10, 1], [0, 35, 8], [0, 60, 1]])

    def test_nothing_is_0_1(self):
        self.assertEqual(asked(NOTHING, volume(0), volume(2), volume(4)), [[0, 0, 1]] * 3)
        self.assertEqual(asked(EVENED, volume(2)), [[0, 0, 1]])


class Centre(unittest.TestCase):
    def test_box(self):
        self.assertEqual(asked(BOX, centre(1), centre(4)), [[0, 5, 1, 1, 2], [0, 5, 1, 2, 1]])

    def test_box_away_from_0(self):
        self.assertEqual(asked(([7, 17], [-9, -5], [3] * 4), centre(-8), centre(-5)),
                         [[0, 12, 1, -17, 2], [0, 12, 1, -7, 1]])

    def test_up_may_be_0(self):
        self.assertEqual(asked(([0, 10], [-2, 2], [3] * 4), centre(2)), [[0, 5, 1, 0, 1]])

    def test_wedge(self):
        self.assertEqual(asked(WEDGE, centre(1), centre(3)), [[0, 5, 1, 2, 3], [0, 5, 1, 2, 1]])

    def test_taper(self):
        self.assertEqual(asked(TAPER, centre(1), centre(2)), [[0, 4, 1, 1, 2], [0, 4, 1, 1, 1]])

    def test_along_and_up_are_not_the_same(self):
        # The half-breadth is place times height: along 2/3 of 6, up 2/3 of z.
        self.assertEqual(asked(([0, 6], [0, 1], [0, 0, 0, 6]), centre(1)), [[0, 4, 1, 2, 3]])

    def test_even_bulge(self):
        self.assertEqual(asked(BULGE, centre(1)), [[0, 1, 1, 1, 2]])

    def test_no_volume_at_the_first_level(self):
        for table in (BOX, WEDGE, SWING, EVENED):
            self.assertEqual(asked(table, centre(0)), [[-5]])

    def test_no_volume_further_up(self):
        self.assertEqual(asked(NOTHING, centre(0), centre(2), centre(4)), [[-5]] * 3)
        self.assertEqual(asked(EVENED, centre(1), centre(2), centre(4)),
                         [[0, 5, 1, 4, 25], [-5], [0, 5, 1, 10, 3]])

    def test_volume_below_0(self):
        # At 3 the volume is little but above 0: the centre may lie beyond her levels.
        self.assertEqual(asked(SWING, centre(1), centre(2), centre(3)), [[-5], [-5], [0, 5, 1, 32, 5]])


class Meta(unittest.TestCase):
    def test_box(self):
        # z/2 and 2/3 of 270 by 60z.
        self.assertEqual(asked(BOX, meta(1), meta(2), meta(3), meta(4)),
                         [[0, 7, 2], [0, 5, 2], [0, 5, 2], [0, 11, 4]])

    def test_box_away_from_0(self):
        self.assertEqual(asked(([7, 17], [-9, -5], [3] * 4), meta(-8), meta(-5)), [[0, -11, 2], [0, -25, 4]])

    def test_may_be_0(self):
        # At h above the first level she has h/2 and, above that, 2/3 of 6^4 by 72h.
        self.assertEqual(asked(([0, 6], [-7, 5], [6] * 4), meta(-5), meta(-1)), [[0, 0, 1], [0, -2, 1]])

    def test_wedge_at_levels_and_between(self):
        # 2z/3 up and as much again.
        self.assertEqual(asked(WEDGE, meta(1), meta(2), meta(3), meta(4)),
                         [[0, 4, 3], [0, 8, 3], [0, 4, 1], [0, 16, 3]])

    def test_taper(self):
        # z/2 and 2/3 of 6^4/4 by 36z.
        self.assertEqual(asked(TAPER, meta(1), meta(2)), [[0, 13, 2], [0, 4, 1]])

    def test_three_stations(self):
        # The cubes' integral is twice (27/4 - 27/6 + 9/8 - 1/10)/8, the volume 5/2.
        self.assertEqual(asked(BULGE, meta(1)), [[0, 431, 600]])

    def test_half_breadth_below_0_counts_as_below_0(self):
        # At 1 she is -1/4 wide on each side, the volume is 25/4: 4/25 and 2/3 of -10/64 by 25/4.
        self.assertEqual(asked(EVENED, meta(1)), [[0, 43, 300]])

    def test_half_breadth_below_0_on_some_of_the_way(self):
        # The cubes' integral is -1/20 to the middle and 3693/140 from there, the volume 6.
        self.assertEqual(asked(SWING_ALONG, meta(1)), [[0, 1079, 315]])

    def test_three_levels(self):
        # At 4, 4 wide: the volume is 60, its moment 680/3.
        self.assertEqual(asked(SWING, meta(4)), [[0, 98, 9]])

    def test_no_breadth_left_at_the_last_level(self):
        # The moment is 40/3, the volume 60; nothing is added where she has no breadth.
        self.assertEqual(asked(OVERFULL, meta(4)), [[0, 2, 9]])
        self.assertEqual(asked(OVERFULL, centre(4)), [[0, 5, 1, 2, 9]])

    def test_no_volume_at_the_first_level(self):
        for table in (BOX, WEDGE, SWING, EVENED, OVERFULL):
            self.assertEqual(asked(table, meta(0)), [[-5]])

    def test_no_volume_further_up(self):
        self.assertEqual(asked(NOTHING, meta(0), meta(2), meta(4)), [[-5]] * 3)
        self.assertEqual(asked(EVENED, meta(2)), [[-5]])

    def test_volume_below_0(self):
        self.assertEqual(asked(SWING, meta(1), meta(2)), [[-5], [-5]])

    def test_the_measure_of_cubes_is_exact(self):
        for power in range(10):
            self.assertEqual(nine_points(lambda x: x ** power, 1, 3) * (power + 1), 3 ** (power + 1) - 1)


class Refusals(unittest.TestCase):
    BEYOND = (LEAST_ARGUMENT, -2 ** 32, -GREATEST - 1, -GREATEST, -10, GREATEST, 2 ** 32, GREATEST_ARGUMENT)

    def test_no_table(self):
        for call in (2, 3, 4, 5):
            for z in (0, 1) + self.BEYOND:
                self.assertEqual(answers([call, z]), [1, -3])
        for call in (6, 7):
            for rows in ([0, 0], [1, 5, 1, 3], [2, 5, 5, 0], [1, LEAST_ARGUMENT, 1, GREATEST_ARGUMENT]):
                self.assertEqual(answers([call] + rows), [1, -3])
                self.assertEqual(answers([call] + rows + area(0)), [1, -3, 1, -3])

    def test_outside_the_levels(self):
        for call in (2, 3, 4, 5):
            for z in (-10, -1, 5) + self.BEYOND:
                self.assertEqual(asked(BOX, [call, z]), [[-4]])
                self.assertEqual(asked(NOTHING, [call, z]), [[-4]])

    def test_a_refusal_leaves_the_object_as_it_was(self):
        self.assertEqual(asked(BOX, area(5), centre(0), volume(-1), meta(0), meta(5),
                               area(4), volume(4), centre(4), meta(4)),
                         [[-4], [-5], [-4], [-5], [-4],
                          [0, 60, 1], [0, 240, 1], [0, 5, 1, 2, 1], [0, 11, 4]])


class AgainstTheDefinition(unittest.TestCase):
    def compare(self, table, heights):
        hull = Hull(*table)
        calls = []
        answers_expected = []
        for z in heights:
            calls = calls + [area(z), volume(z), centre(z), meta(z)]
            answers_expected = answers_expected + expected(hull, z)
        self.assertEqual(asked(table, *calls), answers_expected)

    def test_small_tables(self):
        for seed in range(24):
            stations = 2 + seed % 5
            levels = 2 + seed // 5
            places = rising(seed, stations, seed % 3, 9)
            heights = rising(seed + 100, levels, seed - 12, 5)
            half_breadths = scattered(seed + 200, stations * levels, 20)
            middle = (heights[0] + heights[-1]) // 2
            self.compare((places, heights, half_breadths), [heights[0], heights[1], middle, heights[-1]])

    def test_most_stations(self):
        places = rising(1, 24, 5, 40000)
        half_breadths = scattered(2, 48, GREATEST + 1)
        self.compare((places, [-5, 900], half_breadths), [-5, -4, 333, 900])

    def test_most_levels(self):
        heights = rising(3, 16, -GREATEST, 120000)
        half_breadths = scattered(4, 32, GREATEST + 1)
        self.compare(([0, GREATEST], heights, half_breadths),
                     [heights[0], heights[0] + 1, heights[7], heights[7] + 99, heights[-1] - 1, heights[-1]])

    def test_most_of_both(self):
        table = (rising(5, 24, 0, 40000), rising(6, 16, -GREATEST, 120000), scattered(7, 384, GREATEST + 1))
        heights = table[1]
        self.compare(table, [heights[1], heights[1] + 777])
        hull = Hull(*table)
        last = hull.area(heights[-1])
        self.assertEqual(asked(table, area(heights[-1])), [[0, last.numerator, last.denominator]])


class GreatestMeasures(unittest.TestCase):
    def test_box(self):
        table = ([0, GREATEST], [-GREATEST, GREATEST], [GREATEST] * 4)
        flat = 2 * GREATEST * GREATEST
        self.assertEqual(asked(table, area(-GREATEST), area(GREATEST), volume(-GREATEST), volume(GREATEST)),
                         [[0, flat, 1], [0, flat, 1], [0, 0, 1], [0, 2 * flat * GREATEST, 1]])
        self.assertEqual(asked(table, centre(GREATEST), centre(1 - GREATEST), centre(-GREATEST)),
                         [[0, GREATEST, 2, 0, 1], [0, GREATEST, 2, 1 - 2 * GREATEST, 2], [-5]])
        # The half-breadth's square by three times the height.
        self.assertEqual(asked(table, meta(GREATEST), meta(1 - GREATEST), meta(-GREATEST)),
                         [[0, *told(Fraction(GREATEST, 6))],
                          [0, *told(Fraction(1, 2) - GREATEST + Fraction(GREATEST ** 2, 3))], [-5]])


if __name__ == "__main__":
    unittest.main()
