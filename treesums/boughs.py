"""One object and the calls on it."""

from treesums.mixing import mixed
from treesums.outlines import mended_and_sum, outline_and_sum, outline_length
from treesums.slices import MORE_WANTED, SliceCheck, slice_of
from treesums.trees import SUM, Growth, plain_way, put_out, way_by_key, way_by_name

REFUSED = -1
UNFIT = -2
NO_SLICE = -3

WAY = 1
ADD = 2
LENGTH = 3
READ = 4
MIX = 5
OUTLINE = 6
SLICE = 7
CHANGE = 8
OPEN = 9
FEED = 10
PLACE = 11

PLAIN = 0
KEY = 1
NAME = 2

KEY_BYTES = 32
MOST_NAME = 4096
MOST_BYTES = 65536
MOST_READ = 1024
MOST_FILE = 16384
# 2 to the power of 64: no block behind it has a number.
OUTPUT_END = 18446744073709551616
MIX_WORDS = 6
WORD_END = 0x100000000


class UnknownCall(ValueError):
    """No call has this number."""


class Line:
    """The list of calls, taken from its beginning on."""

    def __init__(self, numbers):
        self.numbers = numbers
        self.taken = 0

    def has_more(self):
        return self.taken < len(self.numbers)

    def take_number(self):
        found = self.numbers[self.taken]
        self.taken += 1
        return found

    def take_row(self):
        many = self.take_number()
        row = self.numbers[self.taken:self.taken + many]
        self.taken += many
        return row


class Boughs:
    """The object: its growth has the way and the bytes; its check is of the slice to come, None if there's none."""

    def __init__(self):
        self.growth = Growth(plain_way())
        self.check = None


def counted(row):
    return [len(row)] + row


def chosen_way(kind, row):
    """The way of a kind, None if there's none."""
    if kind == PLAIN and len(row) == 0:
        return plain_way()
    if kind == KEY and len(row) == KEY_BYTES:
        return way_by_key(row)
    if kind == NAME and len(row) <= MOST_NAME:
        return way_by_name(row)
    return None


def answer_way(boughs, kind, row):
    way = chosen_way(kind, row)
    if way is None:
        return [REFUSED]
    boughs.growth = Growth(way)
    boughs.check = None
    return way.key + [way.flags]


def answer_add(boughs, row):
    if boughs.growth.size() + len(row) > MOST_BYTES:
        return [REFUSED]
    boughs.growth.add(row)
    return [0]


def answer_length(boughs):
    return [boughs.growth.size()]


def answer_read(boughs, begin, many):
    if many > MOST_READ or begin + many > OUTPUT_END:
        return [REFUSED]
    return counted(put_out(boughs.growth.root(), begin, many))


def answer_mix(words):
    if len(words) != MIX_WORDS or max(words) >= WORD_END:
        return [REFUSED]
    return mixed(words[0], words[1], words[2], words[3], words[4], words[5])


def answer_outline(boughs, row):
    if len(row) > MOST_FILE:
        return [REFUSED]
    both = outline_and_sum(boughs.growth.way, row)
    return counted(both[0]) + counted(both[1])


def answer_slice(row, outline, begin, many):
    if len(row) > MOST_FILE:
        return [REFUSED]
    if len(outline) != outline_length(len(row)):
        return [UNFIT]
    return counted(slice_of(row, outline, begin, many))


def placed(parts):
    """How many parts there are; of each its place and its bytes."""
    given = [len(parts)]
    for place, row in parts:
        given.append(place)
        given.extend(counted(row))
    return given


def answer_change(boughs, row, outline, begin, many):
    if len(row) > MOST_FILE:
        return [REFUSED]
    if len(outline) != outline_length(len(row)) or begin + many > len(row):
        return [UNFIT]
    both = mended_and_sum(boughs.growth.way, row, outline, begin, many)
    return placed(both[0]) + counted(both[1])


def answer_open(boughs, total, begin, many):
    if len(total) != SUM:
        return [REFUSED]
    boughs.check = SliceCheck(boughs.growth.way, total, begin, many)
    return [0]


def answer_feed(boughs, row):
    check = boughs.check
    if check is None:
        return [NO_SLICE]
    # What is ended takes no more bytes, so there can't be too many of it.
    if check.outcome == MORE_WANTED and check.fed() + len(row) > MOST_BYTES:
        return [REFUSED]
    shown = check.feed(row)
    return [check.outcome] + placed(shown)


def answer_place(boughs):
    if boughs.check is None:
        return [NO_SLICE]
    return [boughs.check.place]


def answer_of_sums(boughs, call, line):
    if call == WAY:
        kind = line.take_number()
        return answer_way(boughs, kind, line.take_row())
    if call == ADD:
        return answer_add(boughs, line.take_row())
    if call == LENGTH:
        return answer_length(boughs)
    if call == READ:
        begin = line.take_number()
        return answer_read(boughs, begin, line.take_number())
    if call == MIX:
        return answer_mix(line.take_row())
    if call == OUTLINE:
        return answer_outline(boughs, line.take_row())
    raise UnknownCall(str(call))


def answer_of_slices(boughs, call, line):
    if call == FEED:
        return answer_feed(boughs, line.take_row())
    if call == PLACE:
        return answer_place(boughs)
    if call > PLACE:
        raise UnknownCall(str(call))
    begin = line.take_number()
    many = line.take_number()
    row = line.take_row()
    if call == OPEN:
        return answer_open(boughs, row, begin, many)
    outline = line.take_row()
    if call == CHANGE:
        return answer_change(boughs, row, outline, begin, many)
    return answer_slice(row, outline, begin, many)


def answer_next(boughs, line):
    """Takes one call from the line and answers it."""
    call = line.take_number()
    if call < SLICE:
        return answer_of_sums(boughs, call, line)
    return answer_of_slices(boughs, call, line)


def answers(calls):
    """What the calls on one new object answer: for each how many numbers, then these."""
    boughs = Boughs()
    line = Line(calls)
    given = []
    while line.has_more():
        given.extend(counted(answer_next(boughs, line)))
    return given
