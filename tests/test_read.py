"""Call 4, read: what comes out of the root, however the bytes came, from any place on."""

import unittest

from helper import REFUSED, WAYS, add, ask, pattern, read, rough, tree_of, way
from public_values import LONGER, SUMS

SIZES = (0, 1, 63, 64, 65, 1023, 1024, 1025, 2048, 2049, 3072, 3073, 4097, 6145, 7169, 9000)
FARTHEST = 1099511627775


class PublicValues(unittest.TestCase):
    def test_sums(self):
        for many, sums in SUMS.items():
            for (name, (kind, row)), expected in zip(WAYS.items(), sums):
                given = ask(way(kind, row), add(pattern(many)), read(0, 32))
                self.assertEqual(given[2], [32] + list(bytes.fromhex(expected)), (many, name))

    def test_more_than_the_sum(self):
        for (many, name), text in LONGER.items():
            expected = list(bytes.fromhex(text))
            kind, row = WAYS[name]
            given = ask(way(kind, row), add(pattern(many)), read(0, 131), read(60, 71))
            self.assertEqual(given[2:], [[131] + expected, [71] + expected[60:]], (many, name))


class FromAnyPlace(unittest.TestCase):
    PLACES = (
        (0, 0), (0, 1), (0, 63), (0, 64), (0, 65), (1, 1), (1, 64), (31, 2), (63, 1), (63, 2), (64, 64), (65, 62),
        (100, 300), (1000, 1024), (0, 1024), (1, 1024), (63, 1024), (64 * 2 ** 32 - 7, 20), (64 * 2 ** 32 + 5, 70),
        (FARTHEST, 1), (FARTHEST, 1024), (FARTHEST - 63, 64), (FARTHEST, 0), (5, 0),
    )

    def test_every_size_and_way(self):
        for many in SIZES:
            data = rough(many, many + 1)
            for name, (kind, row) in WAYS.items():
                tree = tree_of(kind, row, data)
                given = ask(way(kind, row), add(data), read(0, 32), read(0, 200), read(FARTHEST - 70, 100))
                self.assertEqual(given[2], [32] + tree.sum(), (many, name))
                self.assertEqual(given[3], [200] + tree.out(0, 200), (many, name))
                self.assertEqual(given[4], [100] + tree.out(FARTHEST - 70, 100), (many, name))

    def test_places(self):
        for many in (0, 65, 1024, 3000):
            data = rough(many, many + 2)
            for name, (kind, row) in WAYS.items():
                tree = tree_of(kind, row, data)
                given = ask(way(kind, row), add(data), *(read(begin, n) for begin, n in self.PLACES))
                for (begin, n), answer in zip(self.PLACES, given[2:]):
                    self.assertEqual(answer, [n] + tree.out(begin, n), (many, name, begin, n))

    def test_pieces_of_one_stream(self):
        whole = ask(add(rough(1500, 5)), read(0, 1024))[1][1:]
        for step in (1, 7, 64, 100):
            places = range(0, 300, step)
            given = ask(add(rough(1500, 5)), *(read(begin, step) for begin in places))
            for begin, answer in zip(places, given[1:]):
                self.assertEqual(answer, [step] + whole[begin:begin + step])

    def test_none_is_an_empty_list(self):
        self.assertEqual(ask(read(0, 0), read(FARTHEST, 0)), [[0], [0]])


class HoweverCut(unittest.TestCase):
    def test_cut_in_two_at_every_edge(self):
        for many in (64, 65, 1024, 1025, 2048, 2049, 4096, 5000):
            data = rough(many, many + 3)
            whole = ask(add(data), read(40, 90))[1]
            for edge in (1, 63, 64, 65, 1023, 1024, 1025, 2047, 2048, 2049, 3072, 4096, 4097, many - 1, many):
                if edge <= many:
                    given = ask(add(data[:edge]), add(data[edge:]), read(40, 90))
                    self.assertEqual(given[2], whole, (many, edge))

    def test_cut_byte_by_byte(self):
        data = rough(390, 6)
        given = ask(*(add([byte]) for byte in data), read(0, 64))
        self.assertEqual(given[-1], [64] + tree_of(0, [], data).out(0, 64))

    def test_read_behind_every_add(self):
        data = rough(8000, 7)
        for step in (500, 512, 1024):
            for name, (kind, row) in WAYS.items():
                calls = [way(kind, row)]
                expected = []
                for begin in range(0, len(data), step):
                    calls += [add(data[begin:begin + step]), read(30, 40)]
                    expected.append([40] + tree_of(kind, row, data[:begin + step]).out(30, 40))
                self.assertEqual(ask(*calls)[2::2], expected, (step, name))

    def test_empty_adds_in_between(self):
        data = rough(2048, 8)
        given = ask(add([]), add(data[:1024]), add([]), read(0, 32), add(data[1024:]), add([]), read(0, 32))
        self.assertEqual(given[3], [32] + tree_of(0, [], data[:1024]).sum())
        self.assertEqual(given[6], [32] + tree_of(0, [], data).sum())


class ReadRefuses(unittest.TestCase):
    def test_more_than_1024(self):
        for many in (1025, 1026, 2048, 2 ** 32, FARTHEST):
            self.assertEqual(ask(read(0, many), read(FARTHEST, many)), [REFUSED, REFUSED], many)

    def test_1024_is_answered(self):
        given = ask(read(0, 1024))
        self.assertEqual(given, [[1024] + tree_of(0, [], []).out(0, 1024)])

    def test_end_of_what_comes_out(self):
        """The words' own edge, which a place below 2 to the power of 40 doesn't reach."""
        end = 2 ** 64
        tree = tree_of(0, [], [1, 2])
        given = ask(add([1, 2]), read(end - 70, 70), read(end - 70, 71), read(end, 0), read(end, 1), read(end + 1, 0))
        self.assertEqual(given[1:], [[70] + tree.out(end - 70, 70), REFUSED, [0], REFUSED, REFUSED])


if __name__ == "__main__":
    unittest.main()
