"""Call 8, change."""

import unittest

from helper import (
    FARTHEST, KEY, REFUSED, START, UNFIT, WAYS, Tree, add, ask, change, length, outline, pattern, read, rough,
    slice_nodes, slice_of, to_bytes, to_words, tree_compress, tree_of, way,
)
from public_values import SUMS


def taken_apart(answer):
    """The parents, each as (place, bytes), and the sum, out of an answer."""
    parents = []
    begin = 1
    for _ in range(answer[0]):
        assert answer[begin + 1] == 64
        parents.append((answer[begin], answer[begin + 2:begin + 66]))
        begin += 66
    assert answer[begin] == 32 and len(answer) == begin + 33
    return parents, answer[begin + 1:]


def laid_over(old, parents):
    """An outline with these parents in their places."""
    new = list(old)
    for place, row in parents:
        new[64 * place:64 * place + 64] = row
    return new


def touched(data, at, count, seed):
    """A file of which count bytes from at on are others."""
    return data[:at] + [byte ^ 85 for byte in rough(count, seed)] + data[at + count:]


class Mended(unittest.TestCase):
    """P2: an outline mended is the new file's outline."""

    def check(self, many, at, count, kind=0, row=()):
        old = rough(many, many + at)
        new = touched(old, at, count, many + count)
        before = tree_of(kind, list(row), old)
        after = tree_of(kind, list(row), new)
        given = ask(way(kind, list(row)), change(new, before.outline(), at, count))[1]
        parents, total = taken_apart(given)
        self.assertEqual(laid_over(before.outline(), parents), after.outline(), (many, at, count))
        self.assertEqual(total, after.sum(), (many, at, count))
        expected = [place for _, _, place in slice_nodes(new, before.outline(), at, count) if place is not None]
        self.assertEqual([place for place, _ in parents], expected, (many, at, count))

    def test_one_chunk_touched(self):
        for many in (1025, 2048, 2049, 3072, 4097, 5000, 7168, 9000):
            for number in range(-(-many // 1024)):
                begin = 1024 * number
                self.check(many, begin, min(1024, many - begin))
                self.check(many, begin, 1)
                self.check(many, min(many, begin + 1024) - 1, 1)

    def test_several_touched(self):
        for many, at, count in (
            (2048, 1023, 2), (3000, 1000, 50), (3000, 2047, 2), (5120, 1024, 2048), (5120, 4095, 2), (5120, 1024, 2049),
            (9000, 3000, 3000), (9000, 8191, 2), (9000, 1, 8192), (13000, 12287, 700),
        ):
            self.check(many, at, count)

    def test_all_touched(self):
        for many in (1025, 2048, 3000, 5120, 7000, 16384):
            self.check(many, 0, many)

    def test_by_each_way(self):
        for kind, row in WAYS.values():
            self.check(700, 100, 30, kind, row)
            self.check(5000, 2000, 100, kind, row)
            self.check(3072, 0, 3072, kind, row)

    def test_all_touched_is_the_outline_whatever_stood_there(self):
        for many in (1, 1025, 3000, 7000, 16384):
            data = rough(many, 50)
            tree = tree_of(0, [], data)
            parents, total = taken_apart(ask(change(data, [9] * len(tree.outline()), 0, many))[0])
            self.assertEqual([place for place, _ in parents], list(range(len(tree.parents))), many)
            self.assertEqual(laid_over([9] * len(tree.outline()), parents), tree.outline(), many)
            self.assertEqual(total, tree.sum(), many)

    def test_public_sums(self):
        for many, sums in SUMS.items():
            if 2 <= many <= 16384:
                new = pattern(many)
                old = new[:many // 2] + [new[many // 2] ^ 1] + new[many // 2 + 1:]
                for (kind, row), expected in zip(WAYS.values(), sums):
                    before = tree_of(kind, row, old).outline()
                    given = ask(way(kind, row), change(new, before, many // 2, 1))[1]
                    self.assertEqual(taken_apart(given)[1], list(bytes.fromhex(expected)), many)


class Answer(unittest.TestCase):
    """Told by hand: how many parents, which places, which parts."""

    def states(self, data):
        return [Tree(START, 0, data).state(number, 1) for number in range(-(-len(data) // 1024))]

    def parent(self, left, right):
        return tree_compress(START, left + right, 0, 64, 4)[:8]

    def top_sum(self, row):
        return to_bytes(tree_compress(START, to_words(row), 0, 64, 4 + 8)[:8])

    def test_one_chunk_alone_has_no_parents(self):
        for many in (0, 1, 64, 1023, 1024):
            data = rough(many, 51)
            for at, count in ((0, 0), (0, many), (many, 0), (many // 2, many // 4)):
                given = ask(change(data, [], at, count))
                self.assertEqual(given, [[0, 32] + tree_of(0, [], data).sum()], (many, at, count))

    def test_places_in_the_outline(self):
        data = rough(7168, 52)
        told = [0] * 384
        for at, count, places in (
            (0, 1, [0, 1, 2]), (1024, 1, [0, 1, 2]), (2048, 1, [0, 1, 3]), (3072, 1024, [0, 1, 3]),
            (4096, 1, [0, 4, 5]), (5120, 1, [0, 4, 5]), (6144, 1, [0, 4]), (2047, 2, [0, 1, 2, 3]),
            (3000, 1100, [0, 1, 3, 4, 5]), (5000, 2000, [0, 4, 5]), (0, 7168, [0, 1, 2, 3, 4, 5]),
        ):
            answer = ask(change(data, told, at, count))[0]
            self.assertEqual(answer[0], len(places), (at, count))
            self.assertEqual([place for place, _ in taken_apart(answer)[0]], places, (at, count))

    def test_part_without_a_chosen_chunk_stands_as_in_o(self):
        data = rough(3072, 53)
        told = rough(128, 54)
        a, b, c = self.states(data)
        lower = to_bytes(a) + told[96:]
        upper = to_bytes(self.parent(a, to_words(told[96:]))) + told[32:64]
        expected = [2, 0, 64] + upper + [1, 64] + lower + [32] + self.top_sum(upper)
        self.assertEqual(ask(change(data, told, 0, 1024)), [expected])
        upper = told[:32] + to_bytes(c)
        expected = [1, 0, 64] + upper + [32] + self.top_sum(upper)
        self.assertEqual(ask(change(data, told, 2048, 1)), [expected])
        lower = told[64:96] + to_bytes(b)
        upper = to_bytes(self.parent(to_words(told[64:96]), b)) + to_bytes(c)
        expected = [2, 0, 64] + upper + [1, 64] + lower + [32] + self.top_sum(upper)
        self.assertEqual(ask(change(data, told, 2047, 2)), [expected])

    def test_chunks_that_are_not_chosen_play_no_part(self):
        data = rough(5000, 55)
        told = tree_of(0, [], data).outline()
        other = [byte ^ 1 for byte in data[:2048]] + data[2048:3072] + [byte ^ 1 for byte in data[3072:]]
        self.assertEqual(ask(change(other, told, 2100, 5)), ask(change(data, told, 2100, 5)))

    def test_nothing_touched_leaves_all(self):
        data = rough(5000, 56)
        tree = tree_of(0, [], data)
        for at, count in ((0, 0), (0, 5000), (3000, 1), (5000, 0)):
            parents, total = taken_apart(ask(change(data, tree.outline(), at, count))[0])
            self.assertEqual(laid_over(tree.outline(), parents), tree.outline(), (at, count))
            self.assertEqual(total, tree.sum(), (at, count))

    def test_count_0_chooses_the_first_chunk_alone(self):
        data = rough(3072, 57)
        told = rough(128, 58)
        for at, places in ((0, [0, 1]), (1024, [0, 1]), (2047, [0, 1]), (2048, [0]), (3071, [0]), (3072, [0])):
            answer = ask(change(data, told, at, 0))[0]
            self.assertEqual([place for place, _ in taken_apart(answer)[0]], places, at)
            same = min(at, 3071) // 1024 * 1024
            self.assertEqual(answer, ask(change(data, told, same, 1))[0], at)

    def test_as_many_parents_as_the_slice_has(self):
        data = rough(9000, 59)
        told = tree_of(0, [], data).outline()
        for at, count in ((0, 0), (1024, 3000), (8192, 1), (8000, 1000), (0, 9000), (9000, 0)):
            given = ask(slice_of(data, told, at, count), change(data, told, at, count))
            parents = slice_nodes(data, told, at, count)
            self.assertEqual(given[1][0], sum(1 for _, _, number in parents if number is not None), (at, count))


class ChangeAndObject(unittest.TestCase):
    def test_own_bytes_play_no_part_and_stay(self):
        data = rough(2000, 60)
        told = tree_of(1, KEY, data).outline()
        alone = ask(way(1, KEY), change(data, told, 5, 5))[1]
        given = ask(way(1, KEY), add([1, 2, 3]), change(data, told, 5, 5), length(), add([4]), read(0, 32))
        self.assertEqual(given[2:], [alone, [3], [0], [32] + tree_of(1, KEY, [1, 2, 3, 4]).sum()])

    def test_outline_before_and_behind(self):
        old = rough(6000, 61)
        new = touched(old, 2500, 2000, 62)
        given = ask(outline(old), outline(new))
        before, after = (answer[1:1 + answer[0]] for answer in given)
        parents, total = taken_apart(ask(change(new, before, 2500, 2000))[0])
        self.assertEqual(laid_over(before, parents), after)
        self.assertEqual(total, given[1][-32:])


class ChangeRefuses(unittest.TestCase):
    def test_more_than_16384_bytes(self):
        for many, told in ((16385, 16 * 64), (16385, 0), (20000, 19 * 64), (20000, 1)):
            for at, count in ((0, 1), (0, 20001)):
                self.assertEqual(ask(change([0] * many, [0] * told, at, count)), [REFUSED], (many, told, at, count))

    def test_outline_of_another_length(self):
        for many, wrong in (
            (0, (1, 64)), (1024, (1, 64)), (1025, (0, 63, 65, 128)), (2049, (0, 64, 127, 129, 192)),
            (16384, (0, 959, 961, 16 * 64)),
        ):
            for told in wrong:
                self.assertEqual(ask(change([0] * many, [0] * told, 0, 0)), [UNFIT], (many, told))

    def test_behind_the_files_length(self):
        for many in (0, 1, 1024, 1025, 3000):
            told = [0] * ((many - 1) // 1024 * 64 if many else 0)
            for at, count in (
                (many + 1, 0), (many, 1), (0, many + 1), (1, many), (many // 2, many), (FARTHEST, 0), (0, FARTHEST),
                (FARTHEST, FARTHEST),
            ):
                if at + count > many:
                    self.assertEqual(ask(change([3] * many, told, at, count)), [UNFIT], (many, at, count))
            for at, count in ((many, 0), (0, many), (0, 0)):
                self.assertNotEqual(ask(change([3] * many, told, at, count)), [UNFIT], (many, at, count))

    def test_object_is_as_it_was(self):
        for wrong, answer in (
            (change([0] * 16385, [], 0, 1), REFUSED), (change([0], [1], 0, 1), UNFIT), (change([0], [], 1, 1), UNFIT),
        ):
            given = ask(way(1, KEY), add([8, 9]), wrong, length(), read(0, 32))
            self.assertEqual(given[2:], [answer, [2], [32] + tree_of(1, KEY, [8, 9]).sum()])


if __name__ == "__main__":
    unittest.main()
