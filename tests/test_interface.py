"""The interface: how calls stand in the list, how answers stand in what is given back, and what is left alone."""

import builtins
import contextlib
import io
import time
import unittest
from unittest import mock

from hullafloat.desk import answers
from reference import GREATEST, GREATEST_ARGUMENT, LEAST_ARGUMENT
from reference import area, centre, depth, make, meta, rising, scattered, split, stand, volume

BOX = make([0, 10], [0, 4], [3] * 4)


class WatchedList(list):
    """A list that fails as soon as anything changes it, if only for a while."""


def refuse(name):
    def changed(self, *arguments, **keywords):
        raise AssertionError(f"{name} on the list that was handed in")
    return changed


for method in ("append", "clear", "extend", "insert", "pop", "remove", "reverse", "sort",
               "__setitem__", "__delitem__", "__iadd__", "__imul__"):
    setattr(WatchedList, method, refuse(method))


def mixed_calls():
    bad = make([0, 1], [0, 0], [1] * 4)
    return (area(0) + BOX + area(1) + volume(3) + centre(2) + bad + centre(0) + area(9) + make([], [], [])
            + meta(2) + depth([61], [5]) + stand([60, 61], [2, 2]) + stand([], []) + depth([1], []) + depth([241], [0])
            + meta(0) + meta(-1) + make([0, 1, 2], [0, 1], [0, 1, 0] * 2) + area(1) + depth([2], [0]) + depth([3], [0])
            + stand([1, 1], [1, 0]))


MIXED = [1, -3, 3, 0, 0, 0, 3, 0, 60, 1, 3, 0, 180, 1, 5, 0, 5, 1, 1, 1, 3, 0, 4, 1, 1, -5, 1, -4, 3, 0, 2, 0,
         3, 0, 5, 2, 2, 0, 2, 3, 0, 1, 2, 1, -9, 1, -1, 1, -5, 1, -5, 1, -4,
         3, 0, 0, 0, 3, 0, 5, 2, 2, 0, 1, 1, -5, 3, 0, 131, 600]


def primes(least, count):
    found = []
    number = least
    while len(found) < count:
        if all(number % k != 0 for k in range(2, int(number ** 0.5) + 1)):
            found.append(number)
        number += 1
    return found


def stepped(first, gaps):
    row = [first]
    for gap in gaps:
        row.append(row[-1] + gap)
    return row


def costly(first_height, least_rise):
    """Most stations and levels, all their gaps prime: the longest numbers on the way."""
    heights = stepped(first_height, primes(least_rise, 15))
    half_breadths = [GREATEST - number for number in scattered(9, 384, 1000)]
    return (stepped(0, primes(45000, 23)), heights, half_breadths)


class Lists(unittest.TestCase):
    def test_calls_and_answers_one_behind_another(self):
        self.assertEqual(answers(mixed_calls()), MIXED)

    def test_one_call(self):
        self.assertEqual(answers(BOX), [3, 0, 0, 0])
        for call in (area(0), volume(0), centre(0), meta(0), depth([], []), stand([], [])):
            self.assertEqual(answers(call), [1, -3])

    def test_every_call_answers_whatever_stands_in_it(self):
        numbers = (LEAST_ARGUMENT, -GREATEST - 1, -1, 0, 1, 4, 5, 2000, GREATEST, 2 ** 64, GREATEST_ARGUMENT)
        for table in ([], BOX, make([0, 1], [0, 3000], [1] * 4)):
            for number in numbers:
                calls = area(number) + volume(number) + centre(number) + meta(number)
                for rows in (([number], [number]), ([number], [0]), ([1], [number]), ([number] * 400, [number] * 400),
                             ([number] * 400, []), ([], [number] * 400)):
                    calls += depth(*rows) + stand(*rows)
                answered = split(answers(table + calls))
                self.assertEqual(len(answered), 16 + (table != []))
                for answer in answered:
                    self.assertTrue(answer[0] == 0 and len(answer) > 1 or answer in ([-1], [-3], [-4], [-5], [-9]))

    def test_numbers_of_calls_within_rows_are_no_calls(self):
        calls = make([2, 3, 4], [1, 2], [1, 2, 3, 4, 3, 2]) + area(1)
        self.assertEqual(len(split(answers(calls))), 2)

    def test_whole_numbers_in_a_list(self):
        answered = answers(mixed_calls())
        self.assertIs(type(answered), list)
        for number in answered:
            self.assertIs(type(number), int)

    def test_longest_rows(self):
        calls = make([1] * 60, [1] * 40, [1] * 600) + make([1, 2], [1] * 40, [1] * 600) + make([1, 2], [1, 2], [1] * 600)
        self.assertEqual(answers(calls), [3, 0, 2, 0, 3, 0, 2, 1, 3, 0, 1, 600])
        calls = BOX + depth([1] * 400, [1] * 400) + stand([6] * 400, [7] * 400) + depth([], [2] * 400) + area(0)
        self.assertEqual(answers(calls), [3, 0, 0, 0, 1, -1, 1, -1, 1, -1, 3, 0, 60, 1])

    def test_numbers_of_calls_within_loads_are_no_calls(self):
        calls = BOX + depth([1, 2, 3, 4, 5, 6, 7], [7, 6, 5, 4, 3, 2, 1]) + stand([6, 6], [7, 7]) + area(0)
        self.assertEqual(answers(calls), [3, 0, 0, 0, 2, 0, 1, 3, 0, -7, 2, 3, 0, 60, 1])


class LeftAlone(unittest.TestCase):
    def test_the_list_is_as_it_was(self):
        calls = mixed_calls()
        before = list(calls)
        answers(calls)
        self.assertEqual(calls, before)

    def test_the_list_is_not_changed_for_a_while_either(self):
        self.assertEqual(answers(WatchedList(mixed_calls())), MIXED)

    def test_a_second_time_answers_as_the_first(self):
        calls = mixed_calls()
        first = answers(calls)
        first_copy = list(first)
        second = answers(calls)
        self.assertEqual(second, first_copy)
        second.clear()
        self.assertEqual(first, first_copy)

    def test_no_table_is_kept_from_the_time_before(self):
        answers(BOX)
        answers(BOX + depth([60], [0]) + stand([60], [0]))
        self.assertEqual(answers(area(0) + volume(0) + centre(0)), [1, -3, 1, -3, 1, -3])
        self.assertEqual(answers(meta(1) + depth([60], [0]) + stand([60], [0])), [1, -3, 1, -3, 1, -3])

    def test_nothing_is_printed_read_or_imported(self):
        out = io.StringIO()

        def forbidden(*arguments, **keywords):
            raise AssertionError("read or imported")

        calls = mixed_calls()
        with contextlib.redirect_stdout(out), contextlib.redirect_stderr(out):
            with mock.patch.object(builtins, "open", forbidden), mock.patch.object(builtins, "input", forbidden), \
                    mock.patch.object(builtins, "__import__", forbidden):
                answered = answers(calls)
        self.assertEqual(answered, MIXED)
        self.assertEqual(out.getvalue(), "")


class Long(unittest.TestCase):
    # Far more than it takes: a busy machine is no fault.
    SECONDS = 20

    def timed(self, calls):
        self.assertLessEqual(len(calls), 15000)
        start = time.monotonic()
        answered = split(answers(calls))
        self.assertLess(time.monotonic() - start, self.SECONDS)
        self.assertLessEqual(len(answered), 300)
        return answered

    def test_299_metacentres(self):
        table = costly(-GREATEST, 139000)
        heights = [table[1][k % 15 + 1] - k for k in range(299)]
        calls = make(*table)
        for z in heights:
            calls += meta(z)
        answered = self.timed(calls)
        self.assertEqual(len(answered), 300)
        for k in (0, 150, 298):
            self.assertEqual(split(answers(make(*table) + meta(heights[k])))[1], answered[k + 1])

    def test_299_stands(self):
        table = costly(-1000, 97)
        loads = [([2 ** 40 + k * 2 ** 31] * 20, [k] * 20) for k in range(299)]
        calls = make(*table)
        for k in range(299):
            calls += stand(*loads[k])
        answered = self.timed(calls)
        self.assertEqual(len(answered), 300)
        for k in (0, 150, 298):
            self.assertEqual(split(answers(make(*table) + stand(*loads[k])))[1], answered[k + 1])

    def test_299_depths(self):
        table = costly(-1000, 97)
        calls = make(*table)
        for k in range(299):
            calls += depth([2 ** 48 + k * 2 ** 42] * 2, [k] * 2)
        floats = [answer[1] for answer in self.timed(calls)[1:]]
        self.assertEqual(floats, sorted(floats))
        self.assertGreater(len(set(floats)), 200)

    def test_150_tables_of_2000_heights(self):
        calls = []
        for k in range(150):
            calls += make([0, 40000, GREATEST], [0, 700, 1601, 2000], [GREATEST] * 12) + stand([10 ** 15 + k], [3])
        answered = self.timed(calls)
        self.assertEqual(len(answered), 300)
        self.assertEqual({tuple(answer) for answer in answered[1::2]}, {tuple(answered[1])})

    def test_33_greatest_tables_with_loads(self):
        calls = []
        for k in range(33):
            calls += make(*costly(-1000, 97)) + stand([10 ** 12 + k], [3]) + depth([10 ** 12], [0]) + meta(7)
        answered = self.timed(calls)
        self.assertEqual(answered[2::4], [answered[2]] * 33)
        self.assertEqual(answered[3::4], [answered[3]] * 33)

    def test_longest_loads(self):
        calls = list(BOX)
        for k in range(18):
            calls += stand([0] * 255 + [60], [k] * 256) + depth([0] * 140 + [k], [0] * 141)
        answered = self.timed(calls)
        self.assertEqual(answered[1::2], [[0, 7 - 2 * k, 2] for k in range(18)])
        self.assertEqual(answered[2::2], [[-9]] + [[0, 1]] * 17)

    def test_300_calls(self):
        calls = list(BOX)
        for k in range(299):
            calls += [2 + k % 3, k % 5]
        answered = split(answers(calls))
        self.assertEqual(len(answered), 300)
        self.assertEqual(answered[1:6], [[0, 60, 1], [0, 60, 1], [0, 5, 1, 1, 1], [0, 60, 1], [0, 240, 1]])
        self.assertEqual(answered[-1], [0, 180, 1])

    def test_150_tables_in_300_calls(self):
        calls = []
        for k in range(150):
            calls += make([0, 1 + k], [0, 1], [1] * 4) + area(1)
        answered = split(answers(calls))
        self.assertEqual(answered[1::2], [[0, 2 * (1 + k), 1] for k in range(150)])

    def test_15000_numbers(self):
        calls = []
        for k in range(34):
            heights = rising(k + 1, 16, -GREATEST, 120000)
            calls += make(rising(k, 24, 0, 40000), heights, scattered(k, 384, GREATEST + 1))
            for z in (heights[3] + 1, heights[-1] - 1):
                calls += area(z) + volume(z) + centre(z)
        calls += make([LEAST_ARGUMENT] * 36, [], [])
        self.assertEqual(len(calls), 15000)
        answered = split(answers(calls))
        self.assertEqual(len(answered), 34 * 7 + 1)
        self.assertEqual(answered[:-1:7], [[0, 0, 0]] * 34)
        self.assertEqual(answered[-1], [0, 2, 0])
        # One list's last table answers as it does alone.
        self.assertEqual(answered[33 * 7:-1], split(answers(calls[33 * 440:34 * 440])))


if __name__ == "__main__":
    unittest.main()
