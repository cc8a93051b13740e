"""Calls 2 and 3, add and length."""

import unittest

from helper import KEY, REFUSED, add, ask, length, mix, outline, read, rough, tree_of, way


class AddAndLength(unittest.TestCase):
    def test_new_object_has_no_bytes(self):
        self.assertEqual(ask(length()), [[0]])

    def test_add_answers_0_and_length_how_many(self):
        for many in (0, 1, 63, 64, 65, 1023, 1024, 1025, 2048, 2049, 20000):
            self.assertEqual(ask(add([5] * many), length()), [[0], [many]], many)

    def test_adds_stand_one_behind_another(self):
        given = ask(add([1]), length(), add([2, 3]), length(), add([]), length(), read(0, 32))
        self.assertEqual(given[:6], [[0], [1], [0], [3], [0], [3]])
        self.assertEqual(given[6], [32] + tree_of(0, [], [1, 2, 3]).sum())

    def test_length_over_chunk_edges(self):
        calls = []
        expected = []
        for step in range(1, 12):
            calls += [add([step] * 512), length()]
            expected += [[0], [512 * step]]
        self.assertEqual(ask(*calls), expected)

    def test_same_in_one_add_and_in_several(self):
        data = rough(5000, 11)
        whole = [32] + tree_of(0, [], data).sum()
        for step in (13, 64, 100, 1000, 1023, 1024, 1025, 2048, 4999, 5000):
            cut = [add(data[k:k + step]) for k in range(0, len(data), step)]
            given = ask(*cut, length(), read(0, 32))
            self.assertEqual(given[-2:], [[5000], whole], step)

    def test_refusal_in_between_changes_nothing(self):
        data = rough(3000, 12)
        refused = [way(3, []), way(1, []), read(0, 1025), mix([1]), outline([0] * 16385)]
        for call in refused:
            given = ask(way(1, KEY), add(data[:1024]), call, length(), add(data[1024:]), call, length(), read(0, 32))
            self.assertEqual(given[2], REFUSED)
            self.assertEqual(given[3], [1024])
            self.assertEqual(given[6:], [[3000], [32] + tree_of(1, KEY, data).sum()])

    def test_what_only_asks_changes_nothing(self):
        data = rough(2100, 13)
        asking = [length(), read(0, 32), read(77, 100), mix([1, 2, 3, 4, 5, 6]), outline(data)]
        first = ask(add(data), *asking, *asking)
        self.assertEqual(first[1:6], first[6:])
        given = ask(add(data[:1024]), *asking, add(data[1024:]), read(0, 64))
        self.assertEqual(given[-1], [64] + tree_of(0, [], data).out(0, 64))


class TheMostBytes(unittest.TestCase):
    """The words' own edge, which a list of 25000 numbers doesn't reach."""

    def test_65536_bytes_and_no_more(self):
        data = [3] * 65535
        given = ask(add(data), add([4, 5]), length(), add([4]), length(), add([]), add([5]), length(), read(0, 32))
        self.assertEqual(given[:8], [[0], REFUSED, [65535], [0], [65536], [0], REFUSED, [65536]])
        self.assertEqual(given[8], [32] + tree_of(0, [], data + [4]).sum())

    def test_too_many_at_once(self):
        self.assertEqual(ask(add([0] * 65537), length()), [REFUSED, [0]])


if __name__ == "__main__":
    unittest.main()
