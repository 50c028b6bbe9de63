"""Boxes' texts: their faults, the blocks that they say, and how a box is written."""

from gaugeblocks.texts import ALONE, BOTH_WAYS, CODE, TWO_DEVIATIONS, size_bytes, size_of

LINE_FEED = 10
LONGEST_BOX_TEXT = 4096
MOST_BLOCKS = 20
LEAST_LENGTH = 10
GREATEST_LENGTH = 1000000
LENGTH_STEP = 10
GREATEST_LIMIT = 4096


def line_begins(text):
    """The places where the text's lines begin."""
    return [place for place in range(len(text)) if place == 0 or text[place - 1] == LINE_FEED]


def line_at(text, begin):
    """The bytes of the line that begins there, without its line feed."""
    end = begin
    while end < len(text) and text[end] != LINE_FEED:
        end += 1
    return text[begin:end]


def is_block(length, lo, hi):
    # limits of a size without a fault: lo is at most hi and length + lo is 1 at least already
    in_steps = LEAST_LENGTH <= length <= GREATEST_LENGTH and length % LENGTH_STEP == 0
    return in_steps and lo >= -GREATEST_LIMIT and hi <= GREATEST_LIMIT


def line_refusal(text, begin, number):
    """-2 with the fault of the line, the number-th counted from 0, that begins there; or an empty list."""
    if number == MOST_BLOCKS:
        return [-2, 8, begin]
    size = size_of(line_at(text, begin))
    if size[0] < 0:
        return [-2, size[1], begin + size[2]]
    if size[4] == CODE or not is_block(size[1], size[2], size[3]):
        return [-2, 6, begin]
    return []


def box_refusal(text):
    """-1, or -2 with the fault of the box's text, or an empty list if it's a box's."""
    if len(text) > LONGEST_BOX_TEXT:
        return [-1]
    for number, begin in enumerate(line_begins(text)):
        refusal = line_refusal(text, begin, number)
        if refusal:
            return refusal
    if text[-1:] != [LINE_FEED]:
        return [-2, 7, len(text)]
    return []


def blocks_of(text):
    """The blocks of a box's text without a fault, each a list of its length, lo and hi."""
    return [size_of(line_at(text, begin))[1:4] for begin in line_begins(text)]


def block_form(lo, hi):
    if lo == 0 and hi == 0:
        return ALONE
    return BOTH_WAYS if lo == -hi else TWO_DEVIATIONS


def box_bytes(blocks):
    """The text of a box of these blocks."""
    text = []
    for block in blocks:
        lo = block[1]
        hi = block[2]
        text = text + size_bytes(block[0], lo, hi, block_form(lo, hi), 0, 0) + [LINE_FEED]
    return text
