"""What the tests share: calls put into a list, answers taken apart, and the document's tree written plainly.

The tree here goes down by recursion over whole files, with Python's bytes; it draws nothing from the package.
"""

from treesums.boughs import answers

START = [
    0x6A09E667, 0xBB67AE85, 0x3C6EF372, 0xA54FF53A,
    0x510E527F, 0x9B05688C, 0x1F83D9AB, 0x5BE0CD19,
]
KEY = list(b"whats the Elvish word for friend")
NAME = list(b"BLAKE3 2019-12-27 16:29:52 test vectors context")

# The three kinds of ways, as a call's k and s.
WAYS = {"plain": (0, []), "key": (1, KEY), "name": (2, NAME)}

REFUSED = [-1]
UNFIT = [-2]
NO_SLICE = [-3]

# The largest number that a call takes.
FARTHEST = 1099511627775


def way(kind, row):
    return [1, kind, len(row), *row]


def add(row):
    return [2, len(row), *row]


def length():
    return [3]


def read(begin, many):
    return [4, begin, many]


def mix(words):
    return [5, len(words), *words]


def outline(row):
    return [6, len(row), *row]


def slice_of(row, told, at, count):
    return [7, at, count, len(row), *row, len(told), *told]


def change(row, told, at, count):
    return [8, at, count, len(row), *row, len(told), *told]


def open_slice(total, at, count):
    return [9, at, count, len(total), *total]


def feed(row):
    return [10, len(row), *row]


def place():
    return [11]


def listed(row):
    """A list as it's answered."""
    return [len(row), *row]


def fed(status, *parts):
    """What feed answers: the status, and the parts shown, each as (place in the file, bytes)."""
    return [status, len(parts)] + [number for begin, row in parts for number in (begin, *listed(row))]


def ask(*calls):
    """The answers of these calls on one new object, a list for each."""
    line = [number for call in calls for number in call]
    given = answers(line)
    found = []
    begin = 0
    while begin < len(given):
        many = given[begin]
        found.append(given[begin + 1:begin + 1 + many])
        begin += 1 + many
    assert begin == len(given), "the last answer is cut short"
    assert len(found) == len(calls), "not one answer for each call"
    return found


def pattern(many):
    """The bytes that the public values are of."""
    return [k % 251 for k in range(many)]


def rough(many, seed):
    """Bytes without a period of their own, the same each time."""
    row = []
    for _ in range(many):
        seed = (seed * 6364136223846793005 + 1442695040888963407) % 2 ** 64
        row.append(seed >> 56)
    return row


def turn(word, places):
    return (word >> places | word << (32 - places)) % 2 ** 32


def tree_mix(a, b, c, d, x, y):
    a = (a + b + x) % 2 ** 32
    d = turn(d ^ a, 16)
    c = (c + d) % 2 ** 32
    b = turn(b ^ c, 12)
    a = (a + b + y) % 2 ** 32
    d = turn(d ^ a, 8)
    c = (c + d) % 2 ** 32
    b = turn(b ^ c, 7)
    return a, b, c, d


def tree_compress(h, m, t, l, f):
    v = [*h, *START[:4], t % 2 ** 32, t // 2 ** 32, l, f]
    columns = "048c 159d 26ae 37bf 05af 16bc 278d 349e".split()
    for _ in range(7):
        for k, column in enumerate(columns):
            a, b, c, d = (int(sign, 16) for sign in column)
            v[a], v[b], v[c], v[d] = tree_mix(v[a], v[b], v[c], v[d], m[2 * k], m[2 * k + 1])
        m = [m[int(sign, 16)] for sign in "263a704d1bc59ef8"]
    return [x ^ y for x, y in zip(v[:8], v[8:])] + [x ^ y for x, y in zip(v[8:], h)]


def to_words(row):
    data = bytes(row)
    return [int.from_bytes(data[k:k + 4], "little") for k in range(0, len(data), 4)]


def to_bytes(words):
    return list(b"".join(word.to_bytes(4, "little") for word in words))


class Tree:
    """The tree of a whole file by a way's key and flags."""

    def __init__(self, key, flags, data):
        self.key = key
        self.flags = flags
        self.data = data
        self.parents = []
        self.last = self.node(0, max(1, -(-len(data) // 1024)))

    def node(self, first, chunks):
        """What the last compressing is given; a parent enters the outline ahead of what's under it."""
        if chunks == 1:
            return self.chunk(first)
        left = 1 << ((chunks - 1).bit_length() - 1)
        place = len(self.parents)
        self.parents.append(None)
        block = self.state(first, left) + self.state(first + left, chunks - left)
        self.parents[place] = to_bytes(block)
        return self.key, block, 0, 64, self.flags + 4

    def state(self, first, chunks):
        return tree_compress(*self.node(first, chunks))[:8]

    def chunk(self, number):
        row = self.data[1024 * number:1024 * number + 1024]
        blocks = [row[k:k + 64] for k in range(0, len(row), 64)] or [[]]
        h = self.key
        for k, block in enumerate(blocks):
            flags = self.flags + (1 if k == 0 else 0) + (2 if k == len(blocks) - 1 else 0)
            given = h, to_words(block + [0] * (64 - len(block))), number, len(block), flags
            h = tree_compress(*given)[:8]
        return given

    def out(self, begin, many):
        h, m, _, l, f = self.last
        row = []
        for i in range(begin // 64, -(-(begin + many) // 64)):
            row += to_bytes(tree_compress(h, m, i, l, f + 8))
        return row[begin % 64:begin % 64 + many]

    def sum(self):
        return self.out(0, 32)

    def outline(self):
        return [byte for parent in self.parents for byte in parent]


def tree_way(kind, row):
    """The key and the flags of a way, given as a call's k and s."""
    if kind == 0:
        return START, 0
    if kind == 1:
        return to_words(row), 16
    return to_words(Tree(START, 32, row).sum()), 64


def tree_of(kind, row, data):
    return Tree(*tree_way(kind, row), data)


def chosen_chunks(many, at, count):
    """The numbers of the chosen chunks of a file of so many bytes."""
    last = max(1, -(-many // 1024)) - 1
    end = at + count - 1 if count else at
    return range(min(at // 1024, last), min(end // 1024, last) + 1)


def slice_nodes(data, told, at, count):
    """The nodes of a slice in its order, the length first: of each its bytes, its chunk's number or None for a
    parent, and, of a parent, its place in the outline."""
    chosen = chosen_chunks(len(data), at, count)
    found = [(list(len(data).to_bytes(8, "little")), None, None)]
    parents = iter(range(len(told) // 64))

    def go(first, chunks):
        wanted = any(first <= number < first + chunks for number in chosen)
        if chunks == 1:
            if wanted:
                found.append((data[1024 * first:1024 * first + 1024], first, None))
            return
        parent = next(parents)
        if wanted:
            found.append((told[64 * parent:64 * parent + 64], None, parent))
        left = 1 << ((chunks - 1).bit_length() - 1)
        go(first, left)
        go(first + left, chunks - left)

    go(0, max(1, -(-len(data) // 1024)))
    return found


def tree_slice(data, told, at, count):
    return [byte for row, _, _ in slice_nodes(data, told, at, count) for byte in row]


class Ended(Exception):
    """A check of a slice ends before the slice does; told is the status."""

    def __init__(self, status):
        super().__init__(status)
        self.status = status


class Check:
    """All bytes of a slice that came so far, checked in one go down the tree."""

    def __init__(self, key, flags, total, at, count, came):
        self.tree = Tree(key, flags, [])
        self.asked = at, count
        self.came = came
        self.place = 0
        self.shown = []
        try:
            many = int.from_bytes(bytes(self.take(8)), "little")
            if many > 65536:
                raise Ended(2)
            self.place = 8
            self.go(0, max(1, -(-many // 1024)), many, total, 8)
            self.status = 1
        except Ended as end:
            self.status = end.status

    def take(self, many):
        row = self.came[self.place:self.place + many]
        if len(row) < many:
            raise Ended(0)
        return row

    def go(self, first, chunks, many, claim, root):
        """One node and all under it; many are the file's bytes, claim what the node must give."""
        key, flags = self.tree.key, self.tree.flags
        if chunks == 1:
            row = self.take(min(1024, many - 1024 * first))
            # The chunk's own number counts only with the bytes in its place.
            self.tree.data = [0] * (1024 * first) + row
            h, m, t, l, f = self.tree.chunk(first)
        else:
            row = self.take(64)
            h, m, t, l, f = key, to_words(row), 0, 64, flags + 4
        if to_bytes(tree_compress(h, m, t, l, f + root)[:8]) != claim:
            raise Ended(2)
        self.place += len(row)
        if chunks == 1:
            self.show(first, row)
            return
        left = 1 << ((chunks - 1).bit_length() - 1)
        for begin, size, state in ((first, left, row[:32]), (first + left, chunks - left, row[32:])):
            if any(begin <= number < begin + size for number in chosen_chunks(many, *self.asked)):
                self.go(begin, size, many, state, 0)

    def show(self, number, row):
        at, count = self.asked
        places = [place for place in range(1024 * number, 1024 * number + len(row)) if at <= place < at + count]
        if places:
            self.shown.append((places[0], [row[place - 1024 * number] for place in places]))


def check_answers(kind, row, total, at, count, pieces):
    """What feed and place answer behind each of the pieces, by the way of a call's k and s."""
    key, flags = tree_way(kind, row)
    expected = []
    came = []
    before = 0
    for piece in pieces:
        came = came + piece
        check = Check(key, flags, total, at, count, came)
        expected += [fed(check.status, *check.shown[before:]), [check.place]]
        before = len(check.shown)
    return expected


def cut(row, *places):
    """A list cut at these places."""
    edges = [0, *places, len(row)]
    return [row[begin:end] for begin, end in zip(edges, edges[1:])]


def feed_and_place(pieces):
    return [call for piece in pieces for call in (feed(piece), place())]
