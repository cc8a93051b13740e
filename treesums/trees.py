"""Trees over the chunks of bytes: ways, nodes and the root."""

from treesums.mixing import START, bytes_of, compressed, words_of

CHUNK = 1024
BLOCK = 64
STATE_WORDS = 8
SUM = 32

FIRST_BLOCK = 1
LAST_BLOCK = 2
PARENT = 4
ROOT = 8
BY_KEY = 16
OF_NAME = 32
BY_NAME = 64


class Way:
    """A key of eight words, and flags."""

    def __init__(self, key, flags):
        self.key = key
        self.flags = flags


class Node:
    """A chunk or a parent whose last compressing is still to be done, because the root's is another one."""

    def __init__(self, before, block, number, filled, flags):
        self.before = before
        self.block = block
        self.number = number
        self.filled = filled
        self.flags = flags

    def state(self):
        """What the parent above takes."""
        return compressed(self.before, self.block, self.number, self.filled, self.flags)[:STATE_WORDS]

    def root_words(self, index):
        """The sixteen words of one block of what comes out, if this is the root."""
        return compressed(self.before, self.block, index, self.filled, self.flags + ROOT)


class Growth:
    """The tree of bytes behind which more may come; closed chunks are kept as states, joined as far as they can be."""

    def __init__(self, way):
        self.way = way
        self.closed = 0
        self.parts = []
        self.rest = []

    def size(self):
        return self.closed * CHUNK + len(self.rest)

    def add(self, row):
        rest = self.rest + row
        begin = 0
        # A full chunk stays open until more comes: it may yet be the root.
        while len(rest) - begin > CHUNK:
            self.close_chunk(rest[begin:begin + CHUNK])
            begin += CHUNK
        self.rest = rest[begin:]

    def close_chunk(self, row):
        state = chunk_node(self.way, self.closed, row).state()
        self.closed += 1
        # Something always comes behind a closed chunk, so two equal parts side by side are a parent for good.
        joined = self.closed
        while joined % 2 == 0:
            state = parent_node(self.way, self.parts.pop(), state).state()
            joined //= 2
        self.parts.append(state)

    def root(self):
        node = chunk_node(self.way, self.closed, self.rest)
        for left in reversed(self.parts):
            node = parent_node(self.way, left, node.state())
        return node


def chunk_node(way, number, row):
    """The chunk of these bytes (at most 1,024)."""
    state = way.key
    flags = way.flags + FIRST_BLOCK
    begin = 0
    while len(row) - begin > BLOCK:
        block = words_of(row[begin:begin + BLOCK])
        state = compressed(state, block, number, BLOCK, flags)[:STATE_WORDS]
        flags = way.flags
        begin += BLOCK
    filled = len(row) - begin
    block = words_of(row[begin:] + [0] * (BLOCK - filled))
    return Node(state, block, number, filled, flags + LAST_BLOCK)


def parent_node(way, left, right):
    """The parent of two states; its block is what the outline says of it."""
    return Node(way.key, left + right, 0, BLOCK, way.flags + PARENT)


def root_of(way, row):
    growth = Growth(way)
    growth.add(row)
    return growth.root()


def put_out(root, begin, many):
    """The bytes from begin on of what comes out of the root."""
    index = begin // BLOCK
    skipped = begin % BLOCK
    row = []
    while len(row) < skipped + many:
        row.extend(bytes_of(root.root_words(index)))
        index += 1
    return row[skipped:skipped + many]


def sum_of(root):
    return put_out(root, 0, SUM)


def plain_way():
    return Way(list(START), 0)


def way_by_key(row):
    return Way(words_of(row), BY_KEY)


def way_by_name(row):
    root = root_of(Way(list(START), OF_NAME), row)
    return Way(words_of(sum_of(root)), BY_NAME)
