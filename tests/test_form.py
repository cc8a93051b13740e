"""The form of what is handed in and given back by answers."""

import contextlib
import io
import unittest

from helper import KEY, START, add, ask, length, mix, outline, read, rough, tree_mix, tree_of, way
from treesums.boughs import answers


def joined(*calls):
    return [number for call in calls for number in call]


class Form(unittest.TestCase):
    def test_each_call_alone(self):
        plain = tree_of(0, [], [])
        self.assertEqual(answers([1, 0, 0]), [9] + START + [0])
        self.assertEqual(answers([2, 3, 1, 2, 3]), [1, 0])
        self.assertEqual(answers([2, 0]), [1, 0])
        self.assertEqual(answers([3]), [1, 0])
        self.assertEqual(answers([4, 0, 5]), [6, 5] + plain.out(0, 5))
        self.assertEqual(answers([4, 9, 0]), [1, 0])
        self.assertEqual(answers([5, 6, 1, 2, 3, 4, 5, 6]), [4] + list(tree_mix(1, 2, 3, 4, 5, 6)))
        self.assertEqual(answers([6, 0]), [34, 0, 32] + plain.sum())

    def test_refusals_are_one_number(self):
        self.assertEqual(answers([1, 3, 0]), [1, -1])
        self.assertEqual(answers([4, 0, 1025]), [1, -1])
        self.assertEqual(answers([5, 0]), [1, -1])
        self.assertEqual(answers([6, 16385] + [0] * 16385), [1, -1])

    def test_outline_of_two_chunks(self):
        data = rough(1025, 30)
        tree = tree_of(0, [], data)
        self.assertEqual(answers(outline(data)), [1 + 64 + 1 + 32, 64] + tree.outline() + [32] + tree.sum())

    def test_several_calls_in_one_list(self):
        line = joined([2, 2, 3, 3], [3], [1, 7, 1, 3], [4, 3, 2], [5, 1, 6], [3], [1, 0, 0], [3])
        expected = [1, 0, 1, 2, 1, -1, 3, 2] + tree_of(0, [], [3, 3]).out(3, 2) + [1, -1, 1, 2]
        self.assertEqual(answers(line), expected + [9] + START + [0] + [1, 0])

    def test_four_hundred_calls(self):
        calls = [call for k in range(200) for call in (add([k]), length())]
        self.assertEqual(ask(*calls), [answer for k in range(200) for answer in ([0], [k + 1])])

    def test_25000_numbers(self):
        data = rough(20000, 31)
        line = joined(add(data), add(data[:4000]), *(read(k, 32) for k in range(300)))
        self.assertLessEqual(len(line), 25000)
        tree = tree_of(0, [], data + data[:4000])
        expected = [1, 0, 1, 0]
        for k in range(300):
            expected += [33, 32] + tree.out(k, 32)
        self.assertEqual(answers(line), expected)


class NothingKept(unittest.TestCase):
    LINE = joined(
        way(1, KEY), add(rough(1500, 32)), length(), read(10, 80), mix([9, 8, 7, 6, 5, 4]), outline(rough(3000, 33)),
        way(9, []), read(0, 2000), mix([]),
    )

    def test_list_handed_in_stays(self):
        line = list(self.LINE)
        answers(line)
        self.assertEqual(line, self.LINE)

    def test_same_twice(self):
        self.assertEqual(answers(list(self.LINE)), answers(list(self.LINE)))

    def test_each_list_has_a_new_object(self):
        before = answers(joined(length(), read(0, 32)))
        answers(list(self.LINE))
        self.assertEqual(answers(joined(length(), read(0, 32))), before)

    def test_what_is_given_back_is_not_kept(self):
        first = answers([1, 0, 0])
        expected = list(first)
        for place in range(len(first)):
            first[place] = 0
        self.assertEqual(answers([1, 0, 0]), expected)

    def test_whole_numbers_in_a_list(self):
        given = answers(list(self.LINE))
        self.assertIs(type(given), list)
        self.assertEqual({type(number) for number in given}, {int})

    def test_nothing_is_printed(self):
        printed = io.StringIO()
        with contextlib.redirect_stdout(printed), contextlib.redirect_stderr(printed):
            answers(list(self.LINE))
        self.assertEqual(printed.getvalue(), "")


if __name__ == "__main__":
    unittest.main()
