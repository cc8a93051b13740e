"""All calls in any order on one object, against a model that does each from the document anew."""

import unittest

from helper import (
    FARTHEST, KEY, NAME, NO_SLICE, REFUSED, UNFIT, WAYS, Check, Tree, add, ask, change, cut, fed, feed, length, listed,
    mix, open_slice, outline, place, read, rough, slice_nodes, slice_of, to_bytes, to_words, tree_compress, tree_mix,
    tree_of, tree_slice, tree_way, way,
)


class Model:
    """An object that keeps all bytes that came, and answers each call from them."""

    def __init__(self):
        self.way(0, [])

    def way(self, kind, row):
        if not (kind == 0 and row == [] or kind == 1 and len(row) == 32 or kind == 2 and len(row) <= 4096):
            return REFUSED
        self.key, self.flags = tree_way(kind, row)
        self.data = []
        self.opened = None
        return self.key + [self.flags]

    def add(self, row):
        self.data = self.data + row
        return [0]

    def length(self):
        return [len(self.data)]

    def read(self, begin, many):
        return REFUSED if many > 1024 else listed(Tree(self.key, self.flags, self.data).out(begin, many))

    def mix(self, words):
        return list(tree_mix(*words)) if len(words) == 6 and max(words) < 2 ** 32 else REFUSED

    def outline(self, row):
        tree = Tree(self.key, self.flags, row)
        return REFUSED if len(row) > 16384 else listed(tree.outline()) + listed(tree.sum())

    def fits(self, row, told):
        return len(told) == 64 * (max(1, -(-len(row) // 1024)) - 1)

    def slice_of(self, row, told, at, count):
        if len(row) > 16384:
            return REFUSED
        return listed(tree_slice(row, told, at, count)) if self.fits(row, told) else UNFIT

    def change(self, row, told, at, count):
        if len(row) > 16384:
            return REFUSED
        if not self.fits(row, told) or at + count > len(row):
            return UNFIT
        tree = Tree(self.key, self.flags, row)
        nodes = slice_nodes(row, told, at, count)
        chosen = [number for _, number, _ in nodes if number is not None]
        places = iter(range(len(told)))
        parents = []

        def now(first, chunks, said):
            """The state of a part of the file: as said, if no chunk of it is chosen."""
            own = next(places) if chunks > 1 else None
            if chunks > 1:
                left = 1 << ((chunks - 1).bit_length() - 1)
                block = told[64 * own:64 * own + 64]
                row_now = now(first, left, block[:32]) + now(first + left, chunks - left, block[32:])
            if not any(first <= number < first + chunks for number in chosen):
                return said
            if chunks == 1:
                given = tree.chunk(first)
            else:
                given = self.key, to_words(row_now), 0, 64, self.flags + 4
                parents.append((own, row_now))
            root = 8 if said is None else 0
            return to_bytes(tree_compress(*given[:4], given[4] + root)[:8])

        total = now(0, max(1, -(-len(row) // 1024)), None)
        return [len(parents)] + [n for own, got in sorted(parents) for n in (own, *listed(got))] + listed(total)

    def open_slice(self, total, at, count):
        if len(total) != 32:
            return REFUSED
        self.opened = total, at, count
        self.came = []
        return [0]

    def check(self):
        return Check(self.key, self.flags, *self.opened, self.came)

    def feed(self, row):
        if self.opened is None:
            return NO_SLICE
        before = len(self.check().shown)
        self.came = self.came + row
        check = self.check()
        return fed(check.status, *check.shown[before:])

    def place(self):
        return NO_SLICE if self.opened is None else [self.check().place]


BUILDERS = {
    "way": way, "add": add, "length": length, "read": read, "mix": mix, "outline": outline, "slice_of": slice_of,
    "change": change, "open_slice": open_slice, "feed": feed, "place": place,
}


class Chooser:
    """Choices that look like chance and are the same each time."""

    def __init__(self, seed):
        self.seed = seed

    def below(self, many):
        self.seed = (self.seed * 6364136223846793005 + 1442695040888963407) % 2 ** 64
        return (self.seed >> 33) % many

    def one_of(self, *choices):
        return choices[self.below(len(choices))]


class Writer:
    """Writes a list of calls: slices come in pieces, right or with a byte wrong, and other calls in between."""

    def __init__(self, seed):
        self.choose = Chooser(seed)
        self.kind, self.key = 0, []
        self.to_come = []

    def row(self, most):
        return rough(self.choose.below(most + 1), self.choose.below(1000))

    def span(self):
        at = self.choose.one_of(0, self.choose.below(3000), self.choose.below(3000), 1024, FARTHEST)
        return at, self.choose.one_of(0, 1, self.choose.below(2500), 1024, FARTHEST)

    def way(self):
        kind, key = self.choose.one_of((0, []), (1, KEY), (2, NAME), (1, [1] * 31), (5, []))
        if (kind, key) in WAYS.values():
            self.kind, self.key = kind, key
            self.to_come = []
        return "way", kind, key

    def open(self):
        data = self.row(2600)
        tree = tree_of(self.kind, self.key, data)
        at, count = self.span()
        came = tree_slice(data, tree.outline(), at, count)
        if self.choose.below(3) == 0:
            came[self.choose.below(len(came))] ^= 1 << self.choose.below(8)
        came += self.row(5)
        edges = sorted(self.choose.below(len(came) + 1) for _ in range(self.choose.below(6)))
        self.to_come = cut(came, *edges)
        return "open_slice", tree.sum(), at, count

    def feed(self):
        return "feed", self.to_come.pop(0) if self.to_come else self.row(3)

    def file(self):
        data = self.row(2600)
        told = self.choose.one_of(tree_of(self.kind, self.key, data).outline(), rough(64, 5), rough(128, 6))
        at, count = self.span()
        return data, told, at % (len(data) + 2), count % (len(data) + 2) if self.choose.below(4) else count

    def next(self):
        turn = self.choose.below(40)
        if turn < 14:
            return self.feed()
        if turn < 20:
            return ("place",)
        if turn < 24:
            return self.open()
        if turn < 25:
            return "open_slice", [3] * self.choose.one_of(0, 31, 33), 1, 2
        if turn < 26:
            return self.way()
        if turn < 30:
            return "add", self.row(700)
        if turn < 32:
            return ("length",)
        if turn < 34:
            return "read", self.choose.below(200), self.choose.one_of(0, 32, 100, 1025)
        if turn < 35:
            return "mix", self.choose.one_of([1, 2, 3, 4, 5, 6], [2 ** 32] * 6, [1])
        if turn < 36:
            return "outline", self.row(2100)
        return self.choose.one_of("slice_of", "change"), *self.file()


class AnyOrder(unittest.TestCase):
    def test_lists_of_all_calls(self):
        met = set()
        for seed in range(40):
            writer = Writer(seed)
            steps = [writer.next() for _ in range(30)]
            model = Model()
            expected = [getattr(model, name)(*given) for name, *given in steps]
            found = ask(*(BUILDERS[name](*given) for name, *given in steps))
            for step, answer, right in zip(steps, found, expected):
                self.assertEqual(answer, right, (seed, step[0]))
                met.add((step[0], right[0] if step[0] == "feed" else right[0] < 0))
        for name in ("way", "read", "mix", "slice_of", "change", "open_slice", "place"):
            self.assertIn((name, True), met)
            self.assertIn((name, False), met)
        for status in (-3, 0, 1, 2):
            self.assertIn(("feed", status), met)


class Apart(unittest.TestCase):
    """The object's bytes and the slice to check know nothing of one another."""

    DATA = rough(3000, 90)
    OTHER = rough(2200, 91)

    def test_other_calls_change_nothing_of_a_slice(self):
        for name, (kind, key) in WAYS.items():
            tree = tree_of(kind, key, self.DATA)
            told = tree_of(kind, key, self.OTHER).outline()
            between = [
                add(self.OTHER), length(), read(0, 32), read(0, 1025), mix([1, 2, 3, 4, 5, 6]), mix([]),
                outline(self.OTHER), slice_of(self.OTHER, told, 5, 5), slice_of(self.OTHER, [], 5, 5),
                change(self.OTHER, told, 5, 5), change(self.OTHER, told, 0, 9999), way(0, [1]), way(7, []), place(),
                open_slice([1], 0, 0),
            ]
            came = tree_slice(self.DATA, tree.outline(), 1000, 1500)
            pieces = [feed(piece) for piece in cut(came, 4, 8, 40, 72, 136, 500, 1160, 3000)]
            plain = ask(way(kind, key), open_slice(tree.sum(), 1000, 1500), *pieces)
            for call in between:
                mingled = [one for piece in pieces for one in (piece, call)]
                given = ask(way(kind, key), open_slice(tree.sum(), 1000, 1500), *mingled)
                self.assertEqual(given[2::2], plain[2:], (name, call[0]))

    def test_slices_change_nothing_of_the_bytes(self):
        for name, (kind, key) in WAYS.items():
            tree = tree_of(kind, key, self.DATA)
            came = tree_slice(self.DATA, tree.outline(), 0, 3000)
            wrong = came[:200] + [came[200] ^ 1] + came[201:]
            steps = [
                open_slice(tree.sum(), 0, 3000), feed(came[:100]), place(), feed(came[100:]), place(), feed([1]),
                open_slice(tree.sum(), 0, 3000), feed(wrong), place(), open_slice([], 0, 0), feed([]),
            ]
            calls = [way(kind, key)]
            expected = []
            for number, step in enumerate(steps):
                calls += [add(self.OTHER[200 * number:200 * number + 200]), step, length(), read(7, 40)]
                so_far = self.OTHER[:200 * number + 200]
                expected += [[len(so_far)], listed(tree_of(kind, key, so_far).out(7, 40))]
            given = ask(*calls)[1:]
            self.assertEqual([answer for k in range(len(steps)) for answer in given[4 * k + 2:4 * k + 4]], expected, name)

    def test_outline_slice_and_check_in_one_list(self):
        for name, (kind, key) in WAYS.items():
            tree = tree_of(kind, key, self.DATA)
            came = tree_slice(self.DATA, tree.outline(), 2000, 100)
            given = ask(
                way(kind, key), add(self.DATA), read(0, 32), outline(self.DATA),
                slice_of(self.DATA, tree.outline(), 2000, 100), open_slice(tree.sum(), 2000, 100), feed(came), place(),
            )
            self.assertEqual(given[2], listed(tree.sum()), name)
            self.assertEqual(given[3], listed(tree.outline()) + listed(tree.sum()), name)
            self.assertEqual(given[4], listed(came), name)
            parts = (2000, self.DATA[2000:2048]), (2048, self.DATA[2048:2100])
            self.assertEqual(given[5:], [[0], fed(1, *parts), [len(came)]], name)


if __name__ == "__main__":
    unittest.main()
