"""The form of what is handed in and given back by answers."""

import contextlib
import io
import unittest

from helper import (
    FARTHEST, KEY, START, add, ask, change, feed, length, mix, open_slice, outline, place, read, rough, slice_of,
    tree_mix, tree_of, tree_slice, way,
)
from treesums.boughs import answers


def joined(*calls):
    return [number for call in calls for number in call]


class Form(unittest.TestCase):
    def test_each_call_alone(self):
        plain = tree_of(0, [], [])
        self.assertEqual(answers([1, 0, 0]), [9] + START + [0])
        self.assertEqual(answers([2, 3, 1, 2, 3]), [1, 0])
        self.assertEqual(answers([2, 0]), [1, 0])
        self.assertEqual(answers([3]), [1, 0])
        self.assertEqual(answers([4, 0, 5]), [6, 5] + plain.out(0, 5))
        self.assertEqual(answers([4, 9, 0]), [1, 0])
        self.assertEqual(answers([5, 6, 1, 2, 3, 4, 5, 6]), [4] + list(tree_mix(1, 2, 3, 4, 5, 6)))
        self.assertEqual(answers([6, 0]), [34, 0, 32] + plain.sum())

    def test_each_call_of_slices_alone(self):
        plain = tree_of(0, [], [6, 7])
        self.assertEqual(answers([7, 0, 1, 2, 6, 7, 0]), [11, 10, 2, 0, 0, 0, 0, 0, 0, 0, 6, 7])
        self.assertEqual(answers([7, FARTHEST, FARTHEST, 0, 0]), [9, 8, 0, 0, 0, 0, 0, 0, 0, 0])
        self.assertEqual(answers([8, 1, 1, 2, 6, 7, 0]), [34, 0, 32] + plain.sum())
        self.assertEqual(answers([9, 5, 6, 32] + [1] * 32), [1, 0])
        opened = [9, 1, 3, 32] + plain.sum()
        self.assertEqual(answers(opened + [11]), [1, 0, 1, 0])
        self.assertEqual(answers(opened + [10, 0]), [1, 0, 2, 0, 0])
        given = answers(opened + [10, 10, 2, 0, 0, 0, 0, 0, 0, 0, 6, 7, 11])
        self.assertEqual(given, [1, 0, 5, 1, 1, 1, 1, 7, 1, 10])

    def test_change_of_two_chunks(self):
        data = rough(1030, 34)
        tree = tree_of(0, [], data)
        line = [8, 1024, 6, 1030] + data + [64] + tree.outline()
        self.assertEqual(answers(line), [1 + 1 + 1 + 64 + 1 + 32, 1, 0, 64] + tree.outline() + [32] + tree.sum())

    def test_feed_of_two_parts(self):
        data = rough(1030, 35)
        tree = tree_of(0, [], data)
        came = tree_slice(data, tree.outline(), 1022, 4)
        given = answers([9, 1022, 4, 32] + tree.sum() + [10, len(came)] + came)
        self.assertEqual(given, [1, 0, 10, 1, 2, 1022, 2] + data[1022:1024] + [1024, 2] + data[1024:1026])

    def test_lists_of_slice_and_change_stand_file_first(self):
        data = [5] * 1025
        told = [8] * 64
        self.assertEqual(answers([7, 1024, 1, 1025] + data + [64] + told)[2:], [1, 4, 0, 0, 0, 0, 0, 0] + told + [5])
        self.assertEqual(answers([7, 1024, 1, 64] + told + [1025] + data), [1, -2])
        self.assertEqual(answers([8, 0, 1, 64] + told + [1025] + data), [1, -2])

    def test_refusals_of_slices_are_one_number(self):
        self.assertEqual(answers([7, 0, 0, 16385] + [0] * 16385 + [0]), [1, -1])
        self.assertEqual(answers([7, 0, 0, 0, 1, 9]), [1, -2])
        self.assertEqual(answers([8, 0, 0, 16385] + [0] * 16385 + [0]), [1, -1])
        self.assertEqual(answers([8, 0, 0, 0, 1, 9]), [1, -2])
        self.assertEqual(answers([8, 0, 1, 0, 0]), [1, -2])
        self.assertEqual(answers([9, 0, 1, 0]), [1, -1])
        self.assertEqual(answers([10, 1, 5]), [1, -3])
        self.assertEqual(answers([11]), [1, -3])

    def test_refusals_are_one_number(self):
        self.assertEqual(answers([1, 3, 0]), [1, -1])
        self.assertEqual(answers([4, 0, 1025]), [1, -1])
        self.assertEqual(answers([5, 0]), [1, -1])
        self.assertEqual(answers([6, 16385] + [0] * 16385), [1, -1])

    def test_outline_of_two_chunks(self):
        data = rough(1025, 30)
        tree = tree_of(0, [], data)
        self.assertEqual(answers(outline(data)), [1 + 64 + 1 + 32, 64] + tree.outline() + [32] + tree.sum())

    def test_several_calls_in_one_list(self):
        line = joined([2, 2, 3, 3], [3], [1, 7, 1, 3], [4, 3, 2], [5, 1, 6], [3], [1, 0, 0], [3])
        expected = [1, 0, 1, 2, 1, -1, 3, 2] + tree_of(0, [], [3, 3]).out(3, 2) + [1, -1, 1, 2]
        self.assertEqual(answers(line), expected + [9] + START + [0] + [1, 0])

    def test_four_hundred_calls(self):
        calls = [call for k in range(200) for call in (add([k]), length())]
        self.assertEqual(ask(*calls), [answer for k in range(200) for answer in ([0], [k + 1])])

    def test_25000_numbers(self):
        data = rough(20000, 31)
        line = joined(add(data), add(data[:4000]), *(read(k, 32) for k in range(300)))
        self.assertLessEqual(len(line), 25000)
        tree = tree_of(0, [], data + data[:4000])
        expected = [1, 0, 1, 0]
        for k in range(300):
            expected += [33, 32] + tree.out(k, 32)
        self.assertEqual(answers(line), expected)


class NothingKept(unittest.TestCase):
    LINE = joined(
        way(1, KEY), add(rough(1500, 32)), length(), read(10, 80), mix([9, 8, 7, 6, 5, 4]), outline(rough(3000, 33)),
        way(9, []), read(0, 2000), mix([]),
        slice_of(rough(1500, 36), rough(64, 37), 1000, 100), change(rough(1500, 36), rough(64, 37), 1000, 100),
        open_slice(rough(32, 38), 0, 5), feed([0, 4, 0]), place(), feed([0] * 5 + [9] * 80), place(), feed([1]),
        open_slice(tree_of(1, KEY, [1, 2, 3]).sum(), 1, 1), feed([3, 0, 0, 0, 0, 0, 0, 0, 1, 2, 3, 4]), place(),
        slice_of([1], [1], 0, 0), change([1], [], 2, 0), open_slice([], 0, 0), feed([]),
    )

    def test_list_handed_in_stays(self):
        line = list(self.LINE)
        answers(line)
        self.assertEqual(line, self.LINE)

    def test_same_twice(self):
        self.assertEqual(answers(list(self.LINE)), answers(list(self.LINE)))

    def test_each_list_has_a_new_object(self):
        line = joined(length(), read(0, 32), place(), feed([0]))
        before = answers(line)
        self.assertEqual(before[-4:], [1, -3, 1, -3])
        answers(list(self.LINE))
        self.assertEqual(answers(line), before)

    def test_what_is_given_back_is_not_kept(self):
        first = answers([1, 0, 0])
        expected = list(first)
        for place in range(len(first)):
            first[place] = 0
        self.assertEqual(answers([1, 0, 0]), expected)

    def test_whole_numbers_in_a_list(self):
        given = answers(list(self.LINE))
        self.assertIs(type(given), list)
        self.assertEqual({type(number) for number in given}, {int})

    def test_nothing_is_printed(self):
        printed = io.StringIO()
        with contextlib.redirect_stdout(printed), contextlib.redirect_stderr(printed):
            answers(list(self.LINE))
        self.assertEqual(printed.getvalue(), "")


if __name__ == "__main__":
    unittest.main()
