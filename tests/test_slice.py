"""Call 7, slice."""

import unittest

from helper import (
    FARTHEST, KEY, REFUSED, UNFIT, WAYS, add, ask, length, listed, read, rough, slice_of, tree_of, tree_slice, way,
)

# What is asked for, of files of up to five chunks: at and count.
ASKED = (
    (0, 0), (0, 1), (0, 1024), (0, 1025), (1, 1023), (1, 1024), (5, 10), (1023, 1), (1023, 2), (1024, 0), (1024, 1),
    (1500, 2000), (2047, 0), (2048, 1024), (2048, 1025), (3000, 100), (3071, 2), (4095, 0), (4096, 1), (5000, 1),
    (0, 5000), (0, 6000), (5119, 5), (5120, 0), (5120, 7), (9999, 3), (0, FARTHEST), (3000, FARTHEST),
    (FARTHEST, 0), (FARTHEST, 1), (FARTHEST, FARTHEST),
)


def mark(number):
    """A parent's 64 bytes that name its place in the outline."""
    return [100 + number] * 64


def marks(many):
    """An outline that is not right, but whose parents can be told from one another."""
    return [byte for number in range(many) for byte in mark(number)]


class OneChunk(unittest.TestCase):
    def test_no_bytes(self):
        for at, count in ((0, 0), (0, 1), (7, 0), (FARTHEST, FARTHEST)):
            self.assertEqual(ask(slice_of([], [], at, count)), [[8] + [0] * 8], (at, count))

    def test_length_and_the_whole_chunk(self):
        for many in (1, 64, 255, 256, 1023, 1024):
            data = rough(many, many)
            expected = [8 + many, many % 256, many // 256, 0, 0, 0, 0, 0, 0] + data
            for at, count in ((0, 0), (0, 1), (many, 1), (many - 1, 1), (1024, 0), (5000, 9), (FARTHEST, FARTHEST)):
                self.assertEqual(ask(slice_of(data, [], at, count)), [expected], (many, at, count))


class Order(unittest.TestCase):
    """Told by hand: which parents and chunks stand where."""

    def check(self, chunks, at, count, *nodes):
        data = rough(1024 * chunks - 100, chunks)
        expected = list(len(data).to_bytes(8, "little"))
        for sort, number in nodes:
            expected += mark(number) if sort == "parent" else data[1024 * number:1024 * number + 1024]
        given = ask(slice_of(data, marks(chunks - 1), at, count))
        self.assertEqual(given, [listed(expected)], (chunks, at, count))

    def test_two_chunks(self):
        top, a, b = ("parent", 0), ("chunk", 0), ("chunk", 1)
        self.check(2, 0, 1, top, a)
        self.check(2, 0, 1024, top, a)
        self.check(2, 0, 1025, top, a, b)
        self.check(2, 1023, 2, top, a, b)
        self.check(2, 1024, 1, top, b)
        self.check(2, 1024, 0, top, b)
        self.check(2, 2000, 1, top, b)
        self.check(2, 7000, 0, top, b)

    def test_three_chunks(self):
        top, left, a, b, c = ("parent", 0), ("parent", 1), ("chunk", 0), ("chunk", 1), ("chunk", 2)
        self.check(3, 0, 0, top, left, a)
        self.check(3, 1024, 1024, top, left, b)
        self.check(3, 2048, 1, top, c)
        self.check(3, 2047, 2, top, left, b, c)
        self.check(3, 0, 2048, top, left, a, b)
        self.check(3, 0, FARTHEST, top, left, a, b, c)
        self.check(3, FARTHEST, 1, top, c)

    def test_five_chunks(self):
        top, four, ab, cd = (("parent", number) for number in range(4))
        a, b, c, d, e = (("chunk", number) for number in range(5))
        self.check(5, 0, 1, top, four, ab, a)
        self.check(5, 1024, 1025, top, four, ab, b, cd, c)
        self.check(5, 3072, 0, top, four, cd, d)
        self.check(5, 4096, 1, top, e)
        self.check(5, 4095, 2, top, four, cd, d, e)
        self.check(5, 0, 5000, top, four, ab, a, b, cd, c, d, e)

    def test_seven_chunks(self):
        top, four, ab, cd, three, ef = (("parent", number) for number in range(6))
        b, c, d, e, f, g = (("chunk", number) for number in range(1, 7))
        self.check(7, 5 * 1024, 1, top, three, ef, f)
        self.check(7, 6 * 1024, 9999, top, three, g)
        self.check(7, 3 * 1024 + 5, 1024, top, four, cd, d, three, ef, e)
        self.check(7, 1024, 6 * 1024, top, four, ab, b, cd, c, d, three, ef, e, f, g)


class Slice(unittest.TestCase):
    def test_every_size_and_what_is_asked_for(self):
        for many in (0, 1, 1024, 1025, 2048, 2049, 3072, 4096, 4097, 5120):
            data = rough(many, many + 40)
            told = tree_of(0, [], data).outline()
            for at, count in ASKED:
                expected = [listed(tree_slice(data, told, at, count))]
                self.assertEqual(ask(slice_of(data, told, at, count)), expected, (many, at, count))

    def test_most_bytes(self):
        data = rough(16384, 41)
        told = marks(15)
        for at, count in ((0, 16384), (8191, 2), (8192, 1), (16383, 1), (16384, 0), (FARTHEST, 5)):
            given = ask(slice_of(data, told, at, count))
            self.assertEqual(given, [listed(tree_slice(data, told, at, count))], (at, count))

    def test_whole_file_has_the_whole_outline(self):
        for many in (2048, 3000, 9000, 16384):
            answer = ask(slice_of([7] * many, marks((many - 1) // 1024), 0, many))[0]
            self.assertEqual(answer[0], 8 + many + 64 * ((many - 1) // 1024))
            self.assertEqual(len(answer), 1 + answer[0])

    def test_outline_is_copied_right_or_not(self):
        data = rough(3000, 42)
        right = tree_of(0, [], data).outline()
        for told in (right, [0] * 128, [255] * 128, rough(128, 43)):
            expected = list((3000).to_bytes(8, "little")) + told + data[:2048]
            self.assertEqual(ask(slice_of(data, told, 0, 2048)), [listed(expected)])

    def test_way_plays_no_part(self):
        data = rough(2500, 44)
        expected = listed(tree_slice(data, marks(2), 1000, 100))
        for kind, row in WAYS.values():
            self.assertEqual(ask(way(kind, row), slice_of(data, marks(2), 1000, 100))[1], expected)

    def test_object_stays(self):
        data = rough(1500, 45)
        given = ask(way(1, KEY), add(data), slice_of([1, 2], [], 0, 2), length(), add([5]), read(0, 32))
        self.assertEqual(given[3:], [[1500], [0], [32] + tree_of(1, KEY, data + [5]).sum()])


class SliceRefuses(unittest.TestCase):
    def test_more_than_16384_bytes(self):
        for many, told in ((16385, 16 * 64), (16385, 0), (17409, 17 * 64), (20000, 19 * 64), (20000, 5)):
            self.assertEqual(ask(slice_of([0] * many, [0] * told, 0, 1)), [REFUSED], (many, told))

    def test_outline_of_another_length(self):
        for many, wrong in (
            (0, (1, 64)), (1, (1, 63, 64)), (1024, (1, 64)), (1025, (0, 63, 65, 128)), (2048, (0, 128)),
            (2049, (0, 64, 127, 129, 192)), (16384, (0, 14 * 64, 959, 961, 16 * 64)),
        ):
            for told in wrong:
                self.assertEqual(ask(slice_of([0] * many, [0] * told, 0, 1)), [UNFIT], (many, told))

    def test_any_at_and_count_is_answered(self):
        self.assertEqual(ask(slice_of([9], [], FARTHEST, FARTHEST)), [[9, 1, 0, 0, 0, 0, 0, 0, 0, 9]])

    def test_object_is_as_it_was(self):
        data = rough(1100, 46)
        for wrong, answer in ((slice_of([0] * 16385, [], 0, 1), REFUSED), (slice_of([0], [1], 0, 1), UNFIT)):
            given = ask(way(1, KEY), add(data), wrong, length(), read(0, 32))
            self.assertEqual(given[2:], [answer, [1100], [32] + tree_of(1, KEY, data).sum()])


if __name__ == "__main__":
    unittest.main()
