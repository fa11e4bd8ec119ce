"""Promise 1: make."""

import unittest

from hullafloat.desk import answers
from reference import GREATEST, GREATEST_ARGUMENT, LEAST_ARGUMENT, area, make, split, volume

FAR = (LEAST_ARGUMENT, -2 ** 63, -2 ** 32, 2 ** 20, 2 ** 32, 2 ** 64, GREATEST_ARGUMENT)


def made(places, heights, half_breadths):
    return answers(make(places, heights, half_breadths))


def box(stations, levels):
    return (list(range(stations)), list(range(levels)), [1] * (stations * levels))


class Tables(unittest.TestCase):
    def test_a_table_is_made(self):
        self.assertEqual(made([0, 10], [0, 4], [3, 3, 3, 3]), [3, 0, 0, 0])

    def test_fewest_and_most_stations_and_levels(self):
        for stations in (2, 3, 23, 24):
            for levels in (2, 3, 15, 16):
                self.assertEqual(made(*box(stations, levels)), [3, 0, 0, 0])

    def test_greatest_and_least_measures(self):
        self.assertEqual(made([0, GREATEST], [-GREATEST, GREATEST], [0, GREATEST, GREATEST, 0]), [3, 0, 0, 0])
        self.assertEqual(made([GREATEST - 1, GREATEST], [-GREATEST, 1 - GREATEST], [0] * 4), [3, 0, 0, 0])

    def test_half_breadths_stand_level_by_level(self):
        calls = make([0, 1, 2], [0, 5], [1, 1, 1, 3, 3, 3]) + area(0) + area(5)
        self.assertEqual(split(answers(calls))[1:], [[0, 4, 1], [0, 12, 1]])


class Sizes(unittest.TestCase):
    def test_stations(self):
        for stations in (0, 1, 25, 26, 60):
            self.assertEqual(made(*box(stations, 2)), [3, 0, 2, 0])

    def test_levels(self):
        for levels in (0, 1, 17, 18, 40):
            self.assertEqual(made(*box(2, levels)), [3, 0, 2, 1])

    def test_half_breadths(self):
        for count in (0, 1, 5, 7, 600):
            self.assertEqual(made([0, 1, 2], [0, 1], [1] * count), [3, 0, 1, count])

    def test_all_empty(self):
        self.assertEqual(made([], [], []), [3, 0, 2, 0])


class Rows(unittest.TestCase):
    def test_first_place_below_0(self):
        self.assertEqual(made([-1, 5], [0, 1], [0] * 4), [3, 0, 3, 0])

    def test_place_not_above_the_one_before(self):
        self.assertEqual(made([0, 5, 5, 4], [0, 1], [0] * 8), [3, 0, 3, 2])
        self.assertEqual(made([0, 5, 4, 3], [0, 1], [0] * 8), [3, 0, 3, 2])
        self.assertEqual(made([0, 0], [0, 1], [0] * 4), [3, 0, 3, 1])

    def test_place_too_great(self):
        self.assertEqual(made([0, GREATEST + 1], [0, 1], [0] * 4), [3, 0, 3, 1])
        self.assertEqual(made([GREATEST + 1, 5], [0, 1], [0] * 4), [3, 0, 3, 0])

    def test_height_no_measure(self):
        self.assertEqual(made([0, 1], [-GREATEST - 1, 0], [0] * 4), [3, 0, 4, 0])
        self.assertEqual(made([0, 1], [0, GREATEST + 1], [0] * 4), [3, 0, 4, 1])

    def test_height_not_above_the_one_before(self):
        self.assertEqual(made([0, 1], [-3, -3, -3], [0] * 6), [3, 0, 4, 1])
        self.assertEqual(made([0, 1], [-3, 2, 1], [0] * 6), [3, 0, 4, 2])

    def test_half_breadth_no_measure_from_0_on(self):
        self.assertEqual(made([0, 1], [0, 1], [0, 0, -1, -1]), [3, 0, 5, 2])
        self.assertEqual(made([0, 1], [0, 1], [0, GREATEST, 0, GREATEST + 1]), [3, 0, 5, 3])
        self.assertEqual(made([0, 1], [0, 1], [-1, 0, 0, 0]), [3, 0, 5, 0])

    def test_far_beyond_the_measures(self):
        for number in FAR:
            for k in range(3):
                places, heights, half_breadths = box(3, 3)
                places[k] = number
                self.assertEqual(made(places, heights, half_breadths), [3, 0, 3, k])
                places, heights, half_breadths = box(3, 3)
                heights[k] = number
                self.assertEqual(made(places, heights, half_breadths), [3, 0, 4, k])
            for k in range(9):
                places, heights, half_breadths = box(3, 3)
                half_breadths[k] = number
                self.assertEqual(made(places, heights, half_breadths), [3, 0, 5, k])


class Order(unittest.TestCase):
    """Every list is wrong in all the ways that are left; each kind is told until it is mended."""

    def test_the_first_is_told(self):
        bad_heights = [0, 0] + [9] * 15
        self.assertEqual(made([-1], bad_heights, [-1]), [3, 0, 2, 0])
        self.assertEqual(made([-1, -2], bad_heights, [-1]), [3, 0, 2, 1])
        self.assertEqual(made([-1, -2], [0, 0], [-1] * 3), [3, 0, 1, 3])
        self.assertEqual(made([1, 1], [0, 0], [-1] * 4), [3, 0, 3, 1])
        self.assertEqual(made([1, 2], [0, 0], [-1] * 4), [3, 0, 4, 1])
        self.assertEqual(made([1, 2], [0, 1], [-1] * 4), [3, 0, 5, 0])


class Objects(unittest.TestCase):
    def test_a_second_make_takes_the_first_ones_place(self):
        calls = make([0, 10], [0, 4], [3] * 4) + area(0) + make([0, 2], [1, 9], [5] * 4) + area(0) + area(9)
        self.assertEqual(split(answers(calls)), [[0, 0, 0], [0, 60, 1], [0, 0, 0], [-4], [0, 20, 1]])

    def test_no_table_leaves_the_object_as_it_was(self):
        table = make([0, 10], [0, 4], [3] * 4)
        faults = [
            (make([0], [0, 1], [5, 5]), [0, 2, 0]),
            (make([0, 1], [0], [5, 5]), [0, 2, 1]),
            (make([0, 1], [0, 1], [5]), [0, 1, 1]),
            (make([1, 0], [0, 1], [5] * 4), [0, 3, 1]),
            (make([0, 1], [1, 0], [5] * 4), [0, 4, 1]),
            (make([0, 1], [0, 1], [5, 5, 5, -5]), [0, 5, 3]),
        ]
        for call, answer in faults:
            calls = table + call + area(4) + volume(4)
            self.assertEqual(split(answers(calls)), [[0, 0, 0], answer, [0, 60, 1], [0, 240, 1]])
            self.assertEqual(split(answers(call + area(0) + table + area(0))), [answer, [-3], [0, 0, 0], [0, 60, 1]])


if __name__ == "__main__":
    unittest.main()
