"""Mixing words of 32 bits, and compressing a block of sixteen of them."""

ALL_BITS = 0xFFFFFFFF

START = (
    0x6A09E667, 0xBB67AE85, 0x3C6EF372, 0xA54FF53A,
    0x510E527F, 0x9B05688C, 0x1F83D9AB, 0x5BE0CD19,
)

ROUNDS = 7

# The four places mixed, then where in the block the two words stand that they are mixed with.
STEPS = (
    (0, 4, 8, 12, 0, 1),
    (1, 5, 9, 13, 2, 3),
    (2, 6, 10, 14, 4, 5),
    (3, 7, 11, 15, 6, 7),
    (0, 5, 10, 15, 8, 9),
    (1, 6, 11, 12, 10, 11),
    (2, 7, 8, 13, 12, 13),
    (3, 4, 9, 14, 14, 15),
)

ORDER = (2, 6, 3, 10, 7, 0, 4, 13, 1, 11, 12, 5, 9, 14, 15, 8)


def turned(word, places):
    """A word turned to the right: what falls out comes in on the left."""
    return (word >> places) | ((word << (32 - places)) & ALL_BITS)


def mixed(a, b, c, d, x, y):
    """The four words a, b, c, d, mixed with x and y."""
    a = (a + b + x) & ALL_BITS
    d = turned(d ^ a, 16)
    c = (c + d) & ALL_BITS
    b = turned(b ^ c, 12)
    a = (a + b + y) & ALL_BITS
    d = turned(d ^ a, 8)
    c = (c + d) & ALL_BITS
    b = turned(b ^ c, 7)
    return [a, b, c, d]


def mix_round(words, block):
    """One round, in the sixteen words themselves."""
    for a, b, c, d, x, y in STEPS:
        four = mixed(words[a], words[b], words[c], words[d], block[x], block[y])
        words[a] = four[0]
        words[b] = four[1]
        words[c] = four[2]
        words[d] = four[3]


def compressed(state, block, number, length, flags):
    """The sixteen words that come out; the first eight are the new state."""
    words = list(state) + list(START[:4])
    words.extend([number & ALL_BITS, (number >> 32) & ALL_BITS, length, flags])
    for turn in range(ROUNDS):
        mix_round(words, block)
        block = [block[k] for k in ORDER]
    lower = [words[k] ^ words[k + 8] for k in range(8)]
    upper = [words[k + 8] ^ state[k] for k in range(8)]
    return lower + upper


def words_of(row):
    """Bytes as words, the lowest byte first; the bytes are a multiple of four."""
    return [row[k] + (row[k + 1] << 8) + (row[k + 2] << 16) + (row[k + 3] << 24) for k in range(0, len(row), 4)]


def bytes_of(words):
    """Words as bytes, the lowest byte first."""
    row = []
    for word in words:
        row.extend([word & 255, (word >> 8) & 255, (word >> 16) & 255, word >> 24])
    return row
