"""Calls 10 and 11, feed and place: a slice is checked node by node."""

import unittest

from helper import (
    FARTHEST, KEY, NO_SLICE, REFUSED, START, WAYS, add, ask, check_answers, cut, fed, feed, feed_and_place, open_slice,
    outline, pattern, place, rough, slice_nodes, slice_of, to_bytes, to_words, tree_compress, tree_of, tree_slice, way,
)
from public_values import SUMS

# Files and what is asked for of them: how many bytes, at, count.
SLICES = (
    (0, 0, 0), (0, 0, 1), (0, 9, 9), (1, 0, 1), (1, 0, 0), (1, 1, 1), (100, 10, 20), (1024, 0, 1024), (1024, 1024, 1),
    (1025, 0, 1), (1025, 1024, 1), (1025, 0, 1025), (2048, 1000, 100), (2048, 0, FARTHEST), (3000, 2047, 2),
    (3000, 2048, 0), (3000, 0, 3000), (5000, 1024, 2048), (5000, 4500, 9999), (5000, FARTHEST, FARTHEST),
    (5000, 0, 5000), (7168, 3000, 1200),
)


def made(many, at, count, kind=0, row=()):
    """A file, its sum and its slice."""
    data = rough(many, many + at % 1000)
    tree = tree_of(kind, list(row), data)
    return data, tree.sum(), tree_slice(data, tree.outline(), at, count)


def shown(data, at, count):
    """The parts of a file that a right slice shows, a part for each chunk."""
    parts = []
    for begin in range(0, len(data), 1024):
        row = [(k, data[k]) for k in range(begin, min(begin + 1024, len(data))) if at <= k < at + count]
        if row:
            parts.append((row[0][0], [byte for _, byte in row]))
    return parts


def spread(answer):
    """All bytes that a feed shows, each as (place in the file, byte)."""
    found = []
    begin = 2
    for _ in range(answer[1]):
        many = answer[begin + 1]
        row = answer[begin + 2:begin + 2 + many]
        assert row, "an empty part is shown"
        found += [(answer[begin] + k, byte) for k, byte in enumerate(row)]
        begin += 2 + many
    assert begin == len(answer)
    return found


class RightSlice(unittest.TestCase):
    """P3: a right slice is taken whole, and what's shown are just the bytes asked for."""

    def test_in_one_piece(self):
        for many, at, count in SLICES:
            for name, (kind, row) in WAYS.items():
                data, total, came = made(many, at, count, kind, row)
                given = ask(way(kind, row), open_slice(total, at, count), feed(came), place())
                self.assertEqual(given[2], fed(1, *shown(data, at, count)), (many, at, count, name))
                self.assertEqual(given[3], [len(came)], (many, at, count, name))

    def test_byte_by_byte(self):
        for many, at, count in ((0, 0, 1), (1, 0, 1), (180, 20, 30)):
            data, total, came = made(many, at, count)
            pieces = [[byte] for byte in came]
            given = ask(open_slice(total, at, count), *feed_and_place(pieces))[1:]
            self.assertEqual(given, check_answers(0, [], total, at, count, pieces), many)
            self.assertEqual(given[:14], [fed(0), [0]] * 7)
            self.assertEqual(given[-2:], [fed(1, *shown(data, at, count)), [8 + many]])

    def test_byte_by_byte_over_several_chunks(self):
        """In stretches of 190 bytes, so that a list has no more than 400 calls."""
        for many, at, count in ((2100, 1000, 1090), (3000, 0, 1), (2500, 2400, 9)):
            data, total, came = made(many, at, count)
            ends = []
            end = 0
            for row, number, _ in slice_nodes(data, tree_of(0, [], data).outline(), at, count):
                begin = end
                end += len(row)
                part = [] if number is None else shown(row, at - 1024 * number, count)
                ends.append((begin, end, [(place + 1024 * number, part_row) for place, part_row in part]))
            for start in range(0, len(came), 190):
                stretch = came[start:start + 190]
                given = ask(
                    open_slice(total, at, count), feed(came[:start]), *feed_and_place([byte] for byte in stretch))
                for k in range(len(stretch)):
                    now = start + k + 1
                    parts = [part for _, end, parts in ends for part in parts if end == now]
                    status = 1 if now == len(came) else 0
                    awaited = min((begin for begin, end, _ in ends if end > now), default=len(came))
                    self.assertEqual(given[2 + 2 * k:4 + 2 * k], [fed(status, *parts), [awaited]], (many, now))

    def test_cut_in_two_at_any_place(self):
        for many, at, count in SLICES:
            data, total, came = made(many, at, count)
            edges = {0, 1, 7, 8, 9, 71, 72, 73, 135, 136, 137, 200, 1095, 1096, 1097, 1160, 1161, len(came) - 1}
            for edge in sorted(edge for edge in edges if edge < len(came)):
                pieces = cut(came, edge)
                given = ask(open_slice(total, at, count), *feed_and_place(pieces))[1:]
                self.assertEqual(given, check_answers(0, [], total, at, count, pieces), (many, at, count, edge))
                self.assertEqual(given[0][0], 0)
                self.assertEqual(given[2][0], 1)

    def test_cut_in_many(self):
        for many, at, count in SLICES:
            data, total, came = made(many, at, count)
            expected = [one for begin, row in shown(data, at, count) for one in enumerate(row, start=begin)]
            for step in (50, 64, 333, 1024, 1100):
                pieces = cut(came, *range(step, len(came), step))
                given = ask(open_slice(total, at, count), *(feed(piece) for piece in pieces))[1:]
                self.assertEqual([one for answer in given for one in spread(answer)], expected, (many, at, count, step))
                self.assertEqual([answer[0] for answer in given], [0] * (len(pieces) - 1) + [1], (many, at, count))

    def test_by_each_way_in_pieces(self):
        for kind, row in WAYS.values():
            for many, at, count in ((900, 5, 5), (4500, 1500, 2600)):
                data, total, came = made(many, at, count, kind, row)
                pieces = cut(came, *range(200, len(came), 200))
                given = ask(way(kind, row), open_slice(total, at, count), *feed_and_place(pieces))[2:]
                self.assertEqual(given, check_answers(kind, row, total, at, count, pieces), (kind, many))

    def test_public_sums_vouch_for_the_slices_of_call_7(self):
        for many, sums in SUMS.items():
            if many <= 8193:
                data = pattern(many)
                at, count = many // 3, many // 2
                for (kind, row), expected in zip(WAYS.values(), sums):
                    told = ask(way(kind, row), outline(data))[1]
                    came = ask(slice_of(data, told[1:1 + told[0]], at, count))[0][1:]
                    given = ask(way(kind, row), open_slice(list(bytes.fromhex(expected)), at, count), feed(came))
                    self.assertEqual(given[2], fed(1, *shown(data, at, count)), many)

    def test_most_bytes(self):
        data, total, came = made(16384, 0, 16384)
        self.assertEqual(ask(open_slice(total, 0, 16384), feed(came))[1], fed(1, *shown(data, 0, 16384)))

    def test_nothing_of_count_0(self):
        for many in (0, 1, 1024, 1025, 3000):
            for at in (0, 1, 1023, 1024, many, FARTHEST):
                data, total, came = made(many, at, 0)
                given = ask(open_slice(total, at, 0), feed(came), place())
                self.assertEqual(given[1:], [fed(1), [len(came)]], (many, at))

    def test_nothing_behind_the_end_of_the_file(self):
        for many in (0, 1, 1024, 1025, 3000):
            data, total, came = made(many, many, 50)
            given = ask(open_slice(total, many, 50), feed(came), place())
            self.assertEqual(given[1:], [fed(1), [len(came)]], many)


class Places(unittest.TestCase):
    """Told by hand: where the awaited node begins."""

    def test_one_chunk(self):
        data, total, came = made(100, 0, 100)
        pieces = cut(came, 7, 8, 107)
        given = ask(open_slice(total, 0, 100), place(), *feed_and_place(pieces))[1:]
        self.assertEqual(given, [[0], fed(0), [0], fed(0), [8], fed(0), [8], fed(1, (0, data)), [108]])

    def test_three_chunks(self):
        data, total, came = made(3000, 1000, 1500)
        self.assertEqual(len(came), 8 + 64 + 64 + 3000)
        pieces = cut(came, 8, 71, 72, 135, 136, 1159, 1160, 2183, 2184, 3135)
        given = ask(open_slice(total, 1000, 1500), *feed_and_place(pieces))[1:]
        self.assertEqual([answer[0] for answer in given[1::2]], [8, 8, 72, 72, 136, 136, 1160, 1160, 2184, 2184, 3136])
        first, second, third = (1000, data[1000:1024]), (1024, data[1024:2048]), (2048, data[2048:2500])
        self.assertEqual(
            given[::2],
            [fed(0)] * 6 + [fed(0, first), fed(0), fed(0, second), fed(0), fed(1, third)])

    def test_several_nodes_in_one_feed(self):
        data, total, came = made(3000, 1000, 1500)
        given = ask(open_slice(total, 1000, 1500), *feed_and_place(cut(came, 2200)))[1:]
        self.assertEqual(given[:2], [fed(0, (1000, data[1000:1024]), (1024, data[1024:2048])), [2184]])
        self.assertEqual(given[2:], [fed(1, (2048, data[2048:2500])), [3136]])

    def test_left_part_is_passed_over(self):
        data, total, came = made(3000, 2048, 1)
        given = ask(open_slice(total, 2048, 1), *feed_and_place(cut(came, 72)))[1:]
        self.assertEqual(given, [fed(0), [72], fed(1, (2048, [data[2048]])), [72 + 952]])

    def test_place_asks_only(self):
        data, total, came = made(3000, 0, 3000)
        calls = [open_slice(total, 0, 3000)] + [feed(piece) for piece in cut(came, 5, 50, 900, 1500)]
        expected = ask(*calls)
        given = ask(*(one for call in calls for one in (call, place(), place())))
        self.assertEqual(given[::3], expected)
        self.assertEqual(given[1::3], given[2::3])


class NoBytes(unittest.TestCase):
    def test_right_as_soon_as_the_length_is_there(self):
        for kind, row in WAYS.values():
            total = tree_of(kind, row, []).sum()
            for at, count in ((0, 0), (0, 1), (FARTHEST, FARTHEST)):
                given = ask(way(kind, row), open_slice(total, at, count), *feed_and_place(cut([0] * 8, 7)))
                self.assertEqual(given[2:], [fed(0), [0], fed(1), [8]])

    def test_wrong_as_soon_as_the_length_is_there(self):
        given = ask(open_slice([1] * 32, 0, 1), *feed_and_place([[0] * 7, [0], [0]]))
        self.assertEqual(given[1:], [fed(0), [0], fed(2), [8], fed(2), [8]])


class WrongNode(unittest.TestCase):
    """P4: nothing of a chunk is shown before it and all above it have been found right."""

    def spoiled(self, many, at, count, spot, bit=1):
        data, total, came = made(many, at, count)
        wrong = list(came)
        wrong[spot] ^= bit
        return data, total, wrong

    def test_every_node_of_several_slices(self):
        for many, at, count in ((500, 0, 500), (2000, 1000, 100), (3000, 0, 3000), (5000, 1024, 3000), (5000, 4096, 1)):
            data, total, came = made(many, at, count)
            begin = 0
            before = []
            for row, number, _ in slice_nodes(data, tree_of(0, [], data).outline(), at, count):
                if begin > 0:
                    for spot in {begin, begin + len(row) // 2, begin + len(row) - 1}:
                        self.check_node(many, at, count, spot, begin, begin + len(row), before)
                if number is not None:
                    before += [part for part in shown(data, at, count) if part[0] // 1024 == number]
                begin += len(row)

    def check_node(self, many, at, count, spot, begin, end, before):
        """One byte of a node is wrong; before are the parts of the chunks ahead of it."""
        data, total, wrong = self.spoiled(many, at, count, spot, 128)
        told = (many, at, count, spot)
        given = ask(open_slice(total, at, count), feed(wrong), place(), feed(wrong), feed([]), place())[1:]
        self.assertEqual(given, [fed(2, *before), [begin], fed(2), fed(2), [begin]], told)
        pieces = cut(wrong, end - 1, end)
        given = ask(open_slice(total, at, count), *feed_and_place(pieces))[1:]
        self.assertEqual(given, [fed(0, *before), [begin], fed(2), [begin], fed(2), [begin]], told)

    def test_sum_is_wrong(self):
        for many in (0, 10, 1024, 1025, 5000):
            data, total, came = made(many, 0, many)
            for spot in (0, 15, 31):
                other = list(total)
                other[spot] ^= 1
                given = ask(open_slice(other, 0, many), feed(came), place())
                self.assertEqual(given[1:], [fed(2), [8]], (many, spot))

    def test_outline_that_is_not_right(self):
        data = rough(3000, 80)
        tree = tree_of(0, [], data)
        told = tree.outline()
        told[64 + 32] ^= 1
        came = ask(slice_of(data, told, 0, 3000))[0][1:]
        self.assertEqual(ask(open_slice(tree.sum(), 0, 3000), feed(came), place())[1:], [fed(2), [72]])

    def test_chunks_that_change_places(self):
        data = rough(2048, 81)
        tree = tree_of(0, [], data)
        came = tree_slice(data[1024:] + data[:1024], tree.outline(), 0, 2048)
        self.assertEqual(ask(open_slice(tree.sum(), 0, 2048), feed(came), place())[1:], [fed(2), [72]])

    def test_slice_of_another_part(self):
        data = rough(5000, 82)
        tree = tree_of(0, [], data)
        came = tree_slice(data, tree.outline(), 1024, 10)
        self.assertEqual(ask(open_slice(tree.sum(), 0, 10), feed(came), place())[1:], [fed(2), [200]])

    def test_root_below_the_top(self):
        """A parent that gives what is told as a root, but stands under another parent."""
        data = rough(4096, 83)
        left = tree_of(0, [], data[:2048])
        states = left.sum() + [0] * 32
        total = to_bytes(tree_compress(START, to_words(states), 0, 64, 4 + 8)[:8])
        came = list((4096).to_bytes(8, "little")) + states + left.outline() + data
        self.assertEqual(ask(open_slice(total, 0, 1), feed(came), place())[1:], [fed(2), [72]])

    def test_no_root_at_the_top(self):
        """What a node gives under a parent is told as the sum."""
        for data in (rough(100, 86), rough(2048, 87)):
            tree = tree_of(0, [], data)
            state = to_bytes(tree.state(0, -(-len(data) // 1024)))
            came = tree_slice(data, tree.outline(), 0, 1)
            self.assertEqual(ask(open_slice(state, 0, 1), feed(came), place())[1:], [fed(2), [8]])


class TheLength(unittest.TestCase):
    def test_above_65536(self):
        for many in (65537, 65536 + 1024, 2 ** 24, 2 ** 32, 2 ** 40, 2 ** 63, 2 ** 64 - 1):
            row = list(many.to_bytes(8, "little"))
            given = ask(open_slice([0] * 32, 0, 1), *feed_and_place(cut(row + [1, 2, 3], 7, 8)))
            self.assertEqual(given[1:], [fed(0), [0], fed(2), [0], fed(2), [0]], many)
            given = ask(open_slice([0] * 32, 0, 1), feed(row + [5] * 2000), place())
            self.assertEqual(given[1:], [fed(2), [0]], many)

    def test_up_to_65536_is_awaited(self):
        for many in (1025, 65535, 65536):
            row = list(many.to_bytes(8, "little"))
            given = ask(open_slice([0] * 32, 0, 1), *feed_and_place([row, [0] * 63, [0]]))
            self.assertEqual(given[1:], [fed(0), [8], fed(0), [8], fed(2), [8]], many)

    def test_file_of_65536(self):
        data = rough(65536, 84)
        tree = tree_of(0, [], data)
        came = tree_slice(data, tree.outline(), 65535, 1)
        self.assertEqual(len(came), 8 + 6 * 64 + 1024)
        given = ask(open_slice(tree.sum(), 65535, 1), feed(came), place())
        self.assertEqual(given[1:], [fed(1, (65535, data[65535:])), [len(came)]])

    def test_other_length_of_one_chunk(self):
        data, total, came = made(100, 0, 100)
        for many in (0, 1, 99):
            row = list(many.to_bytes(8, "little")) + data
            self.assertEqual(ask(open_slice(total, 0, 100), feed(row), place())[1:], [fed(2), [8]], many)
        for many in (101, 1024):
            row = list(many.to_bytes(8, "little")) + data
            given = ask(open_slice(total, 0, 100), *feed_and_place([row, [0] * (many - 100)]))
            self.assertEqual(given[1:], [fed(0), [8], fed(2), [8]], many)

    def test_other_length_of_several_chunks(self):
        for many, at, count in ((2000, 0, 10), (2000, 1990, 100), (3000, 0, 3000), (5000, 1024, 10), (5000, 4999, 5)):
            data, total, came = made(many, at, count)
            for other in (0, 1, 1024, 1025, many - 1, many + 1, 2048, 3072, 4096, 4097, 5120, 5121, 16384, 65536):
                row = list(other.to_bytes(8, "little")) + came[8:]
                pieces = cut(row, 30, 100, 1000)
                given = ask(open_slice(total, at, count), *feed_and_place(pieces))[1:]
                expected = check_answers(0, [], total, at, count, pieces)
                self.assertEqual(given, expected, (many, at, count, other))
                for answer in given[::2]:
                    for spot, byte in spread(answer):
                        self.assertEqual(byte, data[spot], (many, at, count, other))

    def test_last_chunk_tells_its_length_only_if_it_is_chosen(self):
        data, total, came = made(2000, 0, 10)
        row = list((1500).to_bytes(8, "little")) + came[8:]
        self.assertEqual(ask(open_slice(total, 0, 10), feed(row), place())[1:], [fed(1, (0, data[:10])), [1096]])
        data, total, came = made(2000, 1024, 10)
        row = list((1999).to_bytes(8, "little")) + came[8:]
        self.assertEqual(ask(open_slice(total, 1024, 10), feed(row), place())[1:], [fed(2), [72]])

    def test_each_byte_of_the_length_wrong(self):
        data, total, came = made(3000, 1000, 1500)
        for spot in range(8):
            wrong = list(came)
            wrong[spot] ^= 16
            pieces = cut(wrong, 8, 500)
            given = ask(open_slice(total, 1000, 1500), *feed_and_place(pieces))[1:]
            self.assertEqual(given, check_answers(0, [], total, 1000, 1500, pieces), spot)
            if spot >= 2:
                self.assertEqual(given, [fed(2), [0]] * 3)


class BehindTheEnd(unittest.TestCase):
    def test_bytes_are_not_looked_at(self):
        for many, at, count in SLICES:
            data, total, came = made(many, at, count)
            for behind in ([0], [255] * 100, came):
                given = ask(open_slice(total, at, count), feed(came + behind), place(), feed(behind), place())
                expected = [fed(1, *shown(data, at, count)), [len(came)], fed(1), [len(came)]]
                self.assertEqual(given[1:], expected, (many, at, count))

    def test_ended_answers_the_same_and_shows_nothing(self):
        data, total, came = made(2000, 0, 2000)
        given = ask(open_slice(total, 0, 2000), feed(came), *[feed([]), feed(came), feed([1]), place()] * 3)
        self.assertEqual(given[2:], [fed(1), fed(1), fed(1), [len(came)]] * 3)
        came[100] ^= 4
        given = ask(open_slice(total, 0, 2000), feed(came), *[feed([]), feed(came), feed([1]), place()] * 3)
        self.assertEqual(given[1], fed(2))
        self.assertEqual(given[2:], [fed(2), fed(2), fed(2), [72]] * 3)


class EmptyFeed(unittest.TestCase):
    def test_more_is_wanted(self):
        self.assertEqual(ask(open_slice([0] * 32, 0, 1), feed([]), place(), feed([])), [[0], fed(0), [0], fed(0)])

    def test_changes_nothing(self):
        for many, at, count in ((0, 0, 0), (500, 10, 10), (3000, 1000, 1500)):
            data, total, came = made(many, at, count)
            for edge in (0, 3, 8, 50, 72, 600, 1160):
                pieces = cut(came, min(edge, len(came)))
                plain = ask(open_slice(total, at, count), *feed_and_place(pieces))[1:]
                given = ask(open_slice(total, at, count), *feed_and_place([[], pieces[0], [], [], pieces[1], []]))[1:]
                self.assertEqual(given[2:4] + given[8:10], plain, (many, edge))
                self.assertEqual(given[:2], [fed(0), [0]])
                self.assertEqual(given[4:8], [fed(plain[0][0]), plain[1]] * 2, (many, edge))
                self.assertEqual(given[10:], [fed(1), [len(came)]])


class NoSlice(unittest.TestCase):
    def test_before_any_open(self):
        self.assertEqual(ask(feed([])), [NO_SLICE])
        self.assertEqual(ask(feed([0] * 8), place(), feed([1])), [NO_SLICE] * 3)
        self.assertEqual(ask(place(), add([1]), place()), [NO_SLICE, [0], NO_SLICE])

    def test_nothing_is_kept_of_what_is_refused(self):
        data, total, came = made(50, 0, 50)
        given = ask(feed(came), open_slice(total, 0, 50), place(), feed(came[:8]), place())
        self.assertEqual(given, [NO_SLICE, [0], [0], fed(0), [8]])

    def test_behind_a_way(self):
        data, total, came = made(2000, 0, 10)
        for kind, row in WAYS.values():
            for first in ([], came[:30], came, [255] * 8):
                given = ask(open_slice(total, 0, 10), feed(first), way(kind, row), feed(came), place(), feed([]))
                self.assertEqual(given[3:], [NO_SLICE] * 3)

    def test_not_behind_a_way_that_is_refused(self):
        data, total, came = made(2000, 0, 10, 1, KEY)
        given = ask(
            way(1, KEY), open_slice(total, 0, 10), feed(came[:80]), way(1, []), place(), way(3, []), feed(came[80:]))
        self.assertEqual(given[3:], [REFUSED, [72], REFUSED, fed(1, (0, data[:10]))])


class TheMostBytes(unittest.TestCase):
    """The words' own edge, which a list of 25000 numbers doesn't reach."""

    def test_65536_bytes_and_no_more(self):
        data = rough(65536, 85)
        tree = tree_of(0, [], data)
        came = tree_slice(data, tree.outline(), 0, 65536)
        self.assertGreater(len(came), 65537)
        given = ask(
            open_slice(tree.sum(), 0, 0), open_slice(tree.sum(), 0, 65536), feed(came[:65537]), place(),
            feed(came[:65535]), place(), feed(came[65535:65537]), place(), feed(came[65535:65536]), feed([]),
            feed([1]), place(),
        )
        self.assertEqual(given[2:4], [REFUSED, [0]])
        self.assertEqual(given[4][0], 0)
        self.assertEqual(given[6:8], [REFUSED, given[5]])
        self.assertEqual(given[8:], [fed(0), fed(0), REFUSED, given[5]])

    def test_what_is_ended_answers_the_same(self):
        total = tree_of(0, [], []).sum()
        given = ask(open_slice(total, 0, 0), feed([0] * 8), feed([0] * 65536), feed([0]), place())
        self.assertEqual(given[1:], [fed(1), fed(1), fed(1), [8]])

    def test_refusal_told_first_counts(self):
        self.assertEqual(ask(feed([0] * 65537)), [NO_SLICE])


if __name__ == "__main__":
    unittest.main()
