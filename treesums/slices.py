"""Slices of a file: made from it and its outline, and checked against its sum."""

from treesums.mixing import bytes_of, words_of
from treesums.outlines import (
    chosen_chunks, chunk_bytes, is_chosen, is_parent, part_states, parts_of, spans_of, whole_span,
)
from treesums.trees import BLOCK, CHUNK, STATE_WORDS, chunk_node, parent_node

LENGTH_BYTES = 8
MOST_LENGTH = 65536

MORE_WANTED = 0
ALL_THERE = 1
NODE_WRONG = 2


def slice_of(row, outline, begin, many):
    """The bytes of a slice; the parents are copied from the outline, right or not."""
    chosen = chosen_chunks(len(row), begin, many)
    taken = bytes_of([len(row), 0])
    place = 0
    for span in spans_of(len(row)):
        wanted = is_chosen(span, chosen)
        if is_parent(span):
            if wanted:
                taken.extend(outline[place:place + BLOCK])
            place += BLOCK
        elif wanted:
            taken.extend(chunk_bytes(row, span[0]))
    return taken


def length_told(row):
    words = words_of(row)
    return words[0] + (words[1] << 32)


class SliceCheck:
    """A slice that is to come, checked node by node."""

    def __init__(self, way, total, begin, many):
        self.way = way
        self.total = words_of(total)
        self.begin = begin
        self.many = many
        self.outcome = MORE_WANTED
        # Where the node that's awaited, or that's wrong, begins; rest are the bytes from there on.
        self.place = 0
        self.rest = []
        # None until the slice's first bytes have told it.
        self.length = None
        # The nodes to come, the next one last, each as (span, the state that it must give).
        self.waiting = []

    def fed(self):
        """How many bytes came, as long as more is wanted."""
        return self.place + len(self.rest)

    def feed(self, row):
        """Takes bytes; gives back the parts that are shown by them, each as (place in the file, bytes)."""
        if self.outcome != MORE_WANTED:
            return []
        rest = self.rest + row
        shown = []
        begin = 0
        while self.outcome == MORE_WANTED and len(rest) - begin >= self.awaited_bytes():
            size = self.awaited_bytes()
            shown.extend(self.take_node(rest[begin:begin + size]))
            self.step_behind(size)
            begin += size
        self.rest = rest[begin:]
        return shown

    def awaited_bytes(self):
        """How many bytes the awaited node has."""
        if self.length is None:
            return LENGTH_BYTES
        span = self.waiting[-1][0]
        if is_parent(span):
            return BLOCK
        return min(CHUNK, self.length - span[0] * CHUNK)

    def take_node(self, row):
        """Checks the awaited node, there whole; gives back the part of it that's shown, if there's one."""
        if self.length is None:
            self.take_length(row)
            return []
        awaited = self.waiting.pop()
        if is_parent(awaited[0]):
            self.take_parent(awaited, words_of(row))
            return []
        return self.take_chunk(awaited, row)

    def step_behind(self, size):
        """Steps behind a node just taken, if it was right."""
        if self.outcome == NODE_WRONG:
            return
        self.place += size
        if len(self.waiting) == 0:
            self.outcome = ALL_THERE

    def take_length(self, row):
        length = length_told(row)
        if length > MOST_LENGTH:
            self.outcome = NODE_WRONG
            return
        self.length = length
        self.waiting.append((whole_span(length), self.total))

    def take_parent(self, awaited, words):
        span = awaited[0]
        if not self.found_right(awaited, parent_node(self.way, words[:STATE_WORDS], words[STATE_WORDS:])):
            return
        told = part_states(words, span)
        chosen = chosen_chunks(self.length, self.begin, self.many)
        # The right part first, so that the left one is the next.
        for part in reversed(parts_of(span)):
            if is_chosen(part, chosen):
                self.waiting.append((part, told[part]))

    def take_chunk(self, awaited, row):
        number = awaited[0][0]
        if not self.found_right(awaited, chunk_node(self.way, number, row)):
            return []
        return self.shown_of(number * CHUNK, row)

    def found_right(self, awaited, node):
        """Whether the node gives what it must."""
        if awaited[0] == whole_span(self.length):
            found = node.root_words(0)[:STATE_WORDS]
        else:
            found = node.state()
        if found == awaited[1]:
            return True
        self.outcome = NODE_WRONG
        return False

    def shown_of(self, place, row):
        """The part that was asked for, of a right chunk which begins at this place of the file."""
        begin = max(self.begin, place)
        end = min(self.begin + self.many, place + len(row))
        if begin >= end:
            return []
        return [(begin, row[begin - place:end - place])]
