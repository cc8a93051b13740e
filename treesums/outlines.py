"""The spans of a file's tree, each as (first chunk, how many chunks), and the outline, made and mended."""

from treesums.mixing import bytes_of, words_of
from treesums.trees import BLOCK, CHUNK, STATE_WORDS, chunk_node, parent_node, sum_of


def chunk_count(length):
    """How many chunks a file of this length has: of no bytes there's one."""
    return max(1, (length + CHUNK - 1) // CHUNK)


def outline_length(length):
    return BLOCK * (chunk_count(length) - 1)


def whole_span(length):
    return (0, chunk_count(length))


def is_parent(span):
    return span[1] > 1


def left_part(chunks):
    """How many of a parent's chunks are on the left."""
    part = 1
    while part * 2 < chunks:
        part *= 2
    return part


def parts_of(span):
    """The left and the right part of a parent."""
    left = left_part(span[1])
    return [(span[0], left), (span[0] + left, span[1] - left)]


def spans_of(length):
    """All nodes of a file's tree in the outline's order."""
    spans = []
    waiting = [whole_span(length)]
    while len(waiting) > 0:
        span = waiting.pop()
        spans.append(span)
        if is_parent(span):
            parts = parts_of(span)
            waiting.append(parts[1])
            waiting.append(parts[0])
    return spans


def parent_spans(length):
    """The outline's parents, in its order."""
    return [span for span in spans_of(length) if is_parent(span)]


def chosen_chunks(length, begin, many):
    """The numbers of the first and the last chunk that many bytes from begin on choose."""
    last = chunk_count(length) - 1
    first = min(begin // CHUNK, last)
    if many == 0:
        return (first, first)
    return (first, min((begin + many - 1) // CHUNK, last))


def is_chosen(span, chosen):
    """Whether there's a chosen chunk in the span."""
    return span[0] <= chosen[1] and chosen[0] < span[0] + span[1]


def chunk_bytes(row, number):
    return row[number * CHUNK:(number + 1) * CHUNK]


def part_states(words, span):
    """What a parent's sixteen words say of its two parts, each by its span."""
    parts = parts_of(span)
    return {parts[0]: words[:STATE_WORDS], parts[1]: words[STATE_WORDS:]}


def states_told(outline, length):
    """What an outline says of all parts, right or not."""
    states = {}
    for place, span in enumerate(parent_spans(length)):
        words = words_of(outline[place * BLOCK:(place + 1) * BLOCK])
        states.update(part_states(words, span))
    return states


def state_of(span, nodes, told):
    if span in nodes:
        return nodes[span].state()
    return told[span]


def node_of(way, row, span, nodes, told):
    """The node of a span of a file; of its parts, either the nodes are there already or the states are told."""
    if not is_parent(span):
        return chunk_node(way, span[0], chunk_bytes(row, span[0]))
    parts = parts_of(span)
    return parent_node(way, state_of(parts[0], nodes, told), state_of(parts[1], nodes, told))


def chosen_nodes(way, row, chosen, told):
    """The nodes with a chosen chunk, each by its span; the other parts are as told."""
    nodes = {}
    # Each node stands before what's under it, so backwards the parts come first.
    for span in reversed(spans_of(len(row))):
        if is_chosen(span, chosen):
            nodes[span] = node_of(way, row, span, nodes, told)
    return nodes


def sum_over(nodes, length):
    return sum_of(nodes[whole_span(length)])


def outline_and_sum(way, row):
    length = len(row)
    nodes = chosen_nodes(way, row, chosen_chunks(length, 0, length), {})
    outline = []
    for span in parent_spans(length):
        outline.extend(bytes_of(nodes[span].block))
    return [outline, sum_over(nodes, length)]


def mended_and_sum(way, row, outline, begin, many):
    """The parents over the chosen chunks, each as (place in the outline, bytes), and the sum."""
    length = len(row)
    told = states_told(outline, length)
    nodes = chosen_nodes(way, row, chosen_chunks(length, begin, many), told)
    mended = []
    for place, span in enumerate(parent_spans(length)):
        if span in nodes:
            mended.append((place, bytes_of(nodes[span].block)))
    return [mended, sum_over(nodes, length)]
