"""Call 1, way."""

import unittest

from helper import KEY, NAME, REFUSED, START, WAYS, add, ask, length, outline, read, rough, tree_of, tree_way, way


def own_way(row):
    """Calls whose answers tell the object's bytes and its way."""
    return [length(), read(0, 32), outline(row)]


class WayAnswers(unittest.TestCase):
    def test_plain(self):
        self.assertEqual(ask(way(0, [])), [START + [0]])

    def test_key_is_read_lowest_byte_first(self):
        row = list(range(1, 33))
        words = [0x04030201, 0x08070605, 0x0C0B0A09, 0x100F0E0D, 0x14131211, 0x18171615, 0x1C1B1A19, 0x201F1E1D]
        self.assertEqual(ask(way(1, row)), [words + [16]])

    def test_key_of_largest_and_smallest_bytes(self):
        self.assertEqual(ask(way(1, [255] * 32)), [[0xFFFFFFFF] * 8 + [16]])
        self.assertEqual(ask(way(1, [0] * 32)), [[0] * 8 + [16]])

    def test_name_of_many_lengths(self):
        for many in (0, 1, 31, 32, 33, 64, 65, 1023, 1024, 1025, 2048, 2049, 3073, 4095, 4096):
            row = rough(many, many)
            key, flags = tree_way(2, row)
            self.assertEqual(flags, 64)
            self.assertEqual(ask(way(2, row)), [key + [64]], many)

    def test_name_is_taken_by_flags_32_and_not_by_the_object(self):
        key, flags = tree_way(2, NAME)
        given = ask(way(1, KEY), add([1, 2, 3]), way(2, NAME))
        self.assertEqual(given[2], key + [flags])

    def test_names_that_differ_give_keys_that_differ(self):
        given = ask(way(2, []), way(2, [0]), way(2, [0, 0]))
        self.assertEqual(len({tuple(answer) for answer in given}), 3)


class WayHolds(unittest.TestCase):
    def test_from_now_on(self):
        data = rough(1500, 1)
        for name, (kind, row) in WAYS.items():
            tree = tree_of(kind, row, data)
            given = ask(way(kind, row), add(data), read(0, 64), outline(data))
            self.assertEqual(given[2], [64] + tree.out(0, 64), name)
            self.assertEqual(given[3], [64] + tree.outline() + [32] + tree.sum(), name)

    def test_new_object_has_the_plain_way(self):
        self.assertEqual(ask(*own_way([7])), ask(way(0, []), *own_way([7]))[1:])

    def test_no_bytes_behind_a_way(self):
        for many in (1, 64, 1024, 1025, 3000):
            for name, (kind, row) in WAYS.items():
                given = ask(add(rough(many, 2)), way(kind, row), *own_way([7]))
                self.assertEqual(given[1:], ask(way(kind, row), *own_way([7])), (many, name))
                self.assertEqual(given[2], [0])

    def test_no_bytes_behind_the_same_way_again(self):
        given = ask(way(1, KEY), add([1, 2, 3]), way(1, KEY), length(), add([4]), read(0, 32))
        self.assertEqual(given[3], [0])
        self.assertEqual(given[5], [32] + tree_of(1, KEY, [4]).sum())

    def test_one_way_behind_another(self):
        given = ask(way(2, NAME), way(1, KEY), way(0, []), add([9]), read(0, 32))
        self.assertEqual(given[4], [32] + tree_of(0, [], [9]).sum())


class WayRefuses(unittest.TestCase):
    WRONG = (
        (0, [0]), (0, KEY), (0, [1] * 5000),
        (1, []), (1, [0] * 31), (1, [0] * 33), (1, [0] * 64),
        (2, [0] * 4097), (2, [0] * 5000),
        (3, []), (3, KEY), (16, KEY), (2 ** 32, []), (2 ** 32 + 1, KEY), (1099511627775, []),
    )

    def test_other_kinds_and_lengths(self):
        for kind, row in self.WRONG:
            self.assertEqual(ask(way(kind, row)), [REFUSED], (kind, len(row)))

    def test_object_is_as_it_was(self):
        data = rough(1100, 3)
        for name, (kind, row) in WAYS.items():
            expected = ask(way(kind, row), add(data), *own_way([7]), add([1]), *own_way([8]))
            for wrong_kind, wrong_row in self.WRONG:
                wrong = way(wrong_kind, wrong_row)
                given = ask(way(kind, row), add(data), wrong, *own_way([7]), wrong, add([1]), wrong, *own_way([8]))
                left = [answer for answer in given if answer != REFUSED]
                self.assertEqual(left, expected, (name, wrong_kind, len(wrong_row)))
                self.assertEqual(len(given), len(expected) + 3)


if __name__ == "__main__":
    unittest.main()
