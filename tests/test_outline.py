"""Call 6, outline."""

import unittest

from helper import (
    KEY, REFUSED, START, WAYS, Tree, add, ask, length, outline, pattern, read, rough, to_bytes, to_words,
    tree_compress, tree_of, way,
)
from public_values import SUMS

SIZES = (
    0, 1, 64, 1023, 1024, 1025, 2048, 2049, 3072, 3073, 4096, 4097, 5120, 5121, 6145, 7168, 7169, 8192, 8193, 9217,
    12288, 13000, 15361, 16383, 16384,
)


def taken_apart(answer):
    """The outline and the sum out of an answer."""
    many = answer[0]
    rest = answer[1 + many:]
    assert len(rest) == 33 and rest[0] == 32
    return answer[1:1 + many], rest[1:]


class Outline(unittest.TestCase):
    def test_every_size_and_way(self):
        for many in SIZES:
            data = rough(many, many + 20)
            for name, (kind, row) in WAYS.items():
                tree = tree_of(kind, row, data)
                given = ask(way(kind, row), outline(data))
                self.assertEqual(given[1], [len(tree.outline())] + tree.outline() + [32] + tree.sum(), (many, name))

    def test_64_bytes_less_than_chunks_times_64(self):
        for many in SIZES:
            chunks = max(1, -(-many // 1024))
            answer = ask(outline([1] * many))[0]
            self.assertEqual(answer[0], 64 * chunks - 64, many)
            self.assertEqual(len(answer), 1 + answer[0] + 1 + 32, many)

    def test_public_sums(self):
        for many, sums in SUMS.items():
            if many <= 16384:
                for (name, (kind, row)), expected in zip(WAYS.items(), sums):
                    given = ask(way(kind, row), outline(pattern(many)))
                    self.assertEqual(taken_apart(given[1])[1], list(bytes.fromhex(expected)), (many, name))

    def test_sum_is_what_read_answers(self):
        data = rough(4500, 21)
        for name, (kind, row) in WAYS.items():
            given = ask(way(kind, row), add(data), read(0, 32), outline(data))
            self.assertEqual(taken_apart(given[3])[1], given[2][1:], name)

    def test_none_for_one_chunk(self):
        for many in (0, 1, 1024):
            self.assertEqual(ask(outline([4] * many))[0][:2], [0, 32], many)


class OutlineOrder(unittest.TestCase):
    def chunk_states(self, data):
        whole = Tree(START, 0, data)
        return [whole.state(number, 1) for number in range(len(data) // 1024)]

    def parent(self, left, right):
        return tree_compress(START, left + right, 0, 64, 4)[:8]

    def test_two_chunks(self):
        data = rough(2048, 22)
        a, b = self.chunk_states(data)
        self.assertEqual(taken_apart(ask(outline(data))[0])[0], to_bytes(a + b))

    def test_three_chunks(self):
        data = rough(3072, 23)
        a, b, c = self.chunk_states(data)
        expected = to_bytes(self.parent(a, b) + c) + to_bytes(a + b)
        self.assertEqual(taken_apart(ask(outline(data))[0])[0], expected)

    def test_seven_chunks(self):
        data = rough(7168, 24)
        a, b, c, d, e, f, g = self.chunk_states(data)
        ab, cd, ef = self.parent(a, b), self.parent(c, d), self.parent(e, f)
        abcd, efg = self.parent(ab, cd), self.parent(ef, g)
        parents = [abcd + efg, ab + cd, a + b, c + d, ef + g, e + f]
        expected = [byte for parent in parents for byte in to_bytes(parent)]
        self.assertEqual(taken_apart(ask(outline(data))[0])[0], expected)

    def test_first_parent_gives_the_sum(self):
        data = rough(5000, 25)
        found, total = taken_apart(ask(outline(data))[0])
        words = tree_compress(START, to_words(found[:64]), 0, 64, 4 + 8)
        self.assertEqual(to_bytes(words[:8]), total)


class OutlineAndObject(unittest.TestCase):
    def test_own_bytes_play_no_part_and_stay(self):
        data = rough(3000, 26)
        other = rough(2500, 27)
        for name, (kind, row) in WAYS.items():
            alone = ask(way(kind, row), outline(other))[1]
            given = ask(way(kind, row), add(data), outline(other), length(), add([1]), outline(other), read(0, 32))
            self.assertEqual([given[2], given[5]], [alone, alone], name)
            self.assertEqual(given[3], [3000])
            self.assertEqual(given[6], [32] + tree_of(kind, row, data + [1]).sum(), name)

    def test_more_than_16384_bytes(self):
        for many in (16385, 17408, 20000):
            given = ask(way(1, KEY), add([1, 2]), outline([0] * many), length(), read(0, 32))
            self.assertEqual(given[2:], [REFUSED, [2], [32] + tree_of(1, KEY, [1, 2]).sum()], many)

    def test_16384_bytes(self):
        self.assertEqual(ask(outline([0] * 16384))[0][0], 15 * 64)


if __name__ == "__main__":
    unittest.main()
