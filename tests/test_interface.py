"""The interface: how calls stand in the list, how answers stand in what is given back, and what is left alone."""

import builtins
import contextlib
import io
import unittest
from unittest import mock

from hullafloat.desk import answers
from reference import GREATEST, LEAST_ARGUMENT, area, centre, make, rising, scattered, split, volume

BOX = make([0, 10], [0, 4], [3] * 4)


class WatchedList(list):
    """A list that fails as soon as anything changes it, if only for a while."""


def refuse(name):
    def changed(self, *arguments, **keywords):
        raise AssertionError(f"{name} on the list that was handed in")
    return changed


for method in ("append", "clear", "extend", "insert", "pop", "remove", "reverse", "sort",
               "__setitem__", "__delitem__", "__iadd__", "__imul__"):
    setattr(WatchedList, method, refuse(method))


def mixed_calls():
    bad = make([0, 1], [0, 0], [1] * 4)
    return (area(0) + BOX + area(1) + volume(3) + centre(2) + bad + centre(0) + area(9) + make([], [], [])
            + make([0, 1, 2], [0, 1], [0, 1, 0] * 2) + area(1))


MIXED = [1, -3, 3, 0, 0, 0, 3, 0, 60, 1, 3, 0, 180, 1, 5, 0, 5, 1, 1, 1, 3, 0, 4, 1, 1, -5, 1, -4, 3, 0, 2, 0,
         3, 0, 0, 0, 3, 0, 5, 2]


class Lists(unittest.TestCase):
    def test_calls_and_answers_one_behind_another(self):
        self.assertEqual(answers(mixed_calls()), MIXED)

    def test_one_call(self):
        self.assertEqual(answers(BOX), [3, 0, 0, 0])
        self.assertEqual(answers([2, 0]), [1, -3])

    def test_numbers_of_calls_within_rows_are_no_calls(self):
        calls = make([2, 3, 4], [1, 2], [1, 2, 3, 4, 3, 2]) + area(1)
        self.assertEqual(len(split(answers(calls))), 2)

    def test_whole_numbers_in_a_list(self):
        answered = answers(mixed_calls())
        self.assertIs(type(answered), list)
        for number in answered:
            self.assertIs(type(number), int)

    def test_longest_rows(self):
        calls = make([1] * 60, [1] * 40, [1] * 600) + make([1, 2], [1] * 40, [1] * 600) + make([1, 2], [1, 2], [1] * 600)
        self.assertEqual(answers(calls), [3, 0, 2, 0, 3, 0, 2, 1, 3, 0, 1, 600])


class LeftAlone(unittest.TestCase):
    def test_the_list_is_as_it_was(self):
        calls = mixed_calls()
        before = list(calls)
        answers(calls)
        self.assertEqual(calls, before)

    def test_the_list_is_not_changed_for_a_while_either(self):
        self.assertEqual(answers(WatchedList(mixed_calls())), MIXED)

    def test_a_second_time_answers_as_the_first(self):
        calls = mixed_calls()
        first = answers(calls)
        first_copy = list(first)
        second = answers(calls)
        self.assertEqual(second, first_copy)
        second.clear()
        self.assertEqual(first, first_copy)

    def test_no_table_is_kept_from_the_time_before(self):
        answers(BOX)
        self.assertEqual(answers(area(0) + volume(0) + centre(0)), [1, -3, 1, -3, 1, -3])

    def test_nothing_is_printed_read_or_imported(self):
        out = io.StringIO()

        def forbidden(*arguments, **keywords):
            raise AssertionError("read or imported")

        calls = mixed_calls()
        with contextlib.redirect_stdout(out), contextlib.redirect_stderr(out):
            with mock.patch.object(builtins, "open", forbidden), mock.patch.object(builtins, "input", forbidden), \
                    mock.patch.object(builtins, "__import__", forbidden):
                answered = answers(calls)
        self.assertEqual(answered, MIXED)
        self.assertEqual(out.getvalue(), "")


class Long(unittest.TestCase):
    def test_300_calls(self):
        calls = list(BOX)
        for k in range(299):
            calls += [2 + k % 3, k % 5]
        answered = split(answers(calls))
        self.assertEqual(len(answered), 300)
        self.assertEqual(answered[1:6], [[0, 60, 1], [0, 60, 1], [0, 5, 1, 1, 1], [0, 60, 1], [0, 240, 1]])
        self.assertEqual(answered[-1], [0, 180, 1])

    def test_150_tables_in_300_calls(self):
        calls = []
        for k in range(150):
            calls += make([0, 1 + k], [0, 1], [1] * 4) + area(1)
        answered = split(answers(calls))
        self.assertEqual(answered[1::2], [[0, 2 * (1 + k), 1] for k in range(150)])

    def test_15000_numbers(self):
        calls = []
        for k in range(34):
            heights = rising(k + 1, 16, -GREATEST, 120000)
            calls += make(rising(k, 24, 0, 40000), heights, scattered(k, 384, GREATEST + 1))
            for z in (heights[3] + 1, heights[-1] - 1):
                calls += area(z) + volume(z) + centre(z)
        calls += make([LEAST_ARGUMENT] * 36, [], [])
        self.assertEqual(len(calls), 15000)
        answered = split(answers(calls))
        self.assertEqual(len(answered), 34 * 7 + 1)
        self.assertEqual(answered[:-1:7], [[0, 0, 0]] * 34)
        self.assertEqual(answered[-1], [0, 2, 0])
        # One list's last table answers as it does alone.
        self.assertEqual(answered[33 * 7:-1], split(answers(calls[33 * 440:34 * 440])))


if __name__ == "__main__":
    unittest.main()
