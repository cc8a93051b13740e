"""Call 9, open: a slice is to come; what's refused leaves the one that was to come."""

import unittest

from helper import (
    FARTHEST, KEY, NO_SLICE, REFUSED, WAYS, ask, fed, feed, open_slice, place, rough, tree_of, tree_slice, way,
)


def told(kind, row, data, at, count):
    """A file's sum and its slice by a way."""
    tree = tree_of(kind, row, data)
    return tree.sum(), tree_slice(data, tree.outline(), at, count)


class Open(unittest.TestCase):
    def test_answers_0(self):
        for at, count in ((0, 0), (0, 1), (5, 7), (FARTHEST, 0), (0, FARTHEST), (FARTHEST, FARTHEST)):
            self.assertEqual(ask(open_slice([1] * 32, at, count), place()), [[0], [0]], (at, count))

    def test_by_each_way(self):
        data = rough(2500, 70)
        for name, (kind, row) in WAYS.items():
            total, came = told(kind, row, data, 1000, 100)
            given = ask(way(kind, row), open_slice(total, 1000, 100), feed(came), place())
            self.assertEqual(given[2], fed(1, (1000, data[1000:1024]), (1024, data[1024:1100])), name)
            self.assertEqual(given[3], [len(came)], name)

    def test_sum_by_another_way_is_wrong(self):
        for data in (rough(10, 71), rough(2500, 71)):
            for name, (kind, row) in WAYS.items():
                total, came = told(kind, row, data, 0, 5)
                for other, (other_kind, other_row) in WAYS.items():
                    if other != name:
                        given = ask(way(other_kind, other_row), open_slice(total, 0, 5), feed(came), place())
                        self.assertEqual(given[2:], [fed(2), [8]], (name, other))

    def test_second_begins_anew(self):
        data = rough(3000, 72)
        total, came = told(0, [], data, 0, 10)
        other = rough(500, 73)
        other_total, other_came = told(0, [], other, 3, 4)
        for first in ([], came[:5], came[:8], came[:100], came, came + [1, 2], [255] * 8, came[:8] + [0] * 64):
            given = ask(
                open_slice(total, 0, 10), feed(first), open_slice(other_total, 3, 4), place(), feed([]),
                feed(other_came[:20]), place(), feed(other_came[20:]), place(),
            )
            self.assertEqual(
                given[2:], [[0], [0], fed(0), fed(0), [8], fed(1, (3, other[3:7])), [508]], len(first))

    def test_same_slice_again(self):
        data = rough(700, 74)
        total, came = told(0, [], data, 600, 200)
        expected = [[0], fed(1, (600, data[600:])), [708]]
        given = ask(*[open_slice(total, 600, 200), feed(came), place()] * 3)
        self.assertEqual(given, expected * 3)


class OpenRefuses(unittest.TestCase):
    def test_other_than_32_bytes(self):
        for many in (0, 1, 31, 33, 64, 100):
            self.assertEqual(ask(open_slice([0] * many, 0, 1)), [REFUSED], many)
            self.assertEqual(ask(open_slice([0] * many, FARTHEST, FARTHEST)), [REFUSED], many)

    def test_no_slice_behind_a_refusal_alone(self):
        self.assertEqual(ask(open_slice([0] * 31, 0, 1), feed([]), place()), [REFUSED, NO_SLICE, NO_SLICE])

    def test_slice_that_was_to_come_stays(self):
        data = rough(3000, 75)
        total, came = told(1, KEY, data, 1020, 10)
        wrong = open_slice([0] * 33, 7, 7)
        for edge in (0, 5, 8, 72, 100, 136, 137, 1160, 1161):
            given = ask(
                way(1, KEY), open_slice(total, 1020, 10), feed(came[:edge]), place(), wrong, place(), wrong,
                feed(came[edge:]), wrong, place(), feed([]),
            )
            self.assertEqual([given[4], given[6], given[8]], [REFUSED] * 3, edge)
            self.assertEqual(given[5], given[3], edge)
            plain = ask(way(1, KEY), open_slice(total, 1020, 10), feed(came[:edge]), place(), feed(came[edge:]))
            self.assertEqual(given[7], plain[4], edge)
            self.assertEqual(given[9:], [[len(came)], fed(1)], edge)


if __name__ == "__main__":
    unittest.main()
