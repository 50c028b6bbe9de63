"""The calls. Each answers a list of whole numbers; a refusal is its number alone, but for -2: a text's fault,
behind which stand the fault's kind and place."""

from gaugeblocks.boxes import blocks_of, box_bytes, box_refusal
from gaugeblocks.limits import GREATEST_WIDTH_GRADE, are_fit, code_limits, is_code, is_nominal, unit_of, widest_code
from gaugeblocks.limits import width_of
from gaugeblocks.stacks import GREATEST_FILM, best_stack, first_gap, is_stack, least_of, length_of, lengths_of
from gaugeblocks.stacks import most_of, nearest_length, stacks_without
from gaugeblocks.texts import is_right, size_bytes, size_of

LONGEST_SIZE_TEXT = 64


def unit(n):
    """The unit of n, or -3: n is no nominal size."""
    if not is_nominal(n):
        return [-3]
    return [unit_of(n)]


def width(n, g):
    """The width of grade g of n, or -3: n is no nominal size, or g is above 21."""
    if not is_nominal(n) or g > GREATEST_WIDTH_GRADE:
        return [-3]
    return [width_of(n, g)]


def code(n, letter, g):
    """0, lo and hi of a code; or -3: n is no nominal size, -5: it's no code, -4: its limits aren't fit for n."""
    if not is_nominal(n):
        return [-3]
    if not is_code(letter, g):
        return [-5]
    limits = code_limits(n, letter, g)
    if not are_fit(n, limits[0], limits[1]):
        return [-4]
    return [0] + limits


def read(text):
    """0, n, lo, hi, the form, the letter and the grade that a size's text says; -1: it's too long, -2: its fault."""
    if len(text) > LONGEST_SIZE_TEXT:
        return [-1]
    return size_of(text)


def write(n, lo, hi, form, letter, grade):
    """How many bytes the size's text has, then they; -3: the size isn't right."""
    if not is_right(n, lo, hi, form, letter, grade):
        return [-3]
    text = size_bytes(n, lo, hi, form, letter, grade)
    return [len(text)] + text


def fit(hole, shaft):
    """1 if the shaft always goes in, 2 if it's never loose, else 0; then the least gap and the most gap; -1 and
    -2 of the hole's text, then of the shaft's."""
    outer = read(hole)
    if outer[0] < 0:
        return outer
    inner = read(shaft)
    if inner[0] < 0:
        return inner
    least = outer[1] + outer[2] - inner[1] - inner[3]
    most = outer[1] + outer[3] - inner[1] - inner[2]
    if least >= 0:
        return [1, least, most]
    return [2 if most <= 0 else 0, least, most]


def inside(n, lo, hi, hole):
    """0, then the letter and the grade of the widest code inside lo and hi, a shaft's if hole is 0, else a hole's;
    -3: n is no nominal size, or lo is above hi; -5: there's none."""
    if not is_nominal(n) or lo > hi:
        return [-3]
    found = widest_code(n, lo, hi, ord("a") if hole == 0 else ord("A"))
    if not found:
        return [-5]
    return [0] + found


def box(box):
    """How many blocks the box has, then of each its length, lo and hi; -1: its text is too long, -2: its fault."""
    refusal = box_refusal(box)
    if refusal:
        return refusal
    blocks = blocks_of(box)
    answer = [len(blocks)]
    for block in blocks:
        answer.extend(block)
    return answer


def again(box):
    """How many bytes the box has, written, then they; -1 and -2 as of box."""
    refusal = box_refusal(box)
    if refusal:
        return refusal
    text = box_bytes(blocks_of(box))
    return [len(text)] + text


def box_or_film_refusal(box, f):
    """The refusal of a call that takes a box and a film, or an empty list."""
    refusal = box_refusal(box)
    if not refusal and f > GREATEST_FILM:
        return [-3]
    return refusal


def true_of(f, box, row):
    """0, then the length of a stack, its least and its most; -1 and -2 as of box; -3: f is above 1,000;
    -5: the row is no stack of the box."""
    refusal = box_or_film_refusal(box, f)
    if refusal:
        return refusal
    blocks = blocks_of(box)
    if not is_stack(len(blocks), row):
        return [-5]
    return [0, length_of(blocks, row), least_of(blocks, row), most_of(blocks, row, f)]


def stack(f, z, box, barred):
    """How many blocks the best stack of length z has, then their numbers; -1, -2 and -3 as of true_of;
    -5: there's none."""
    refusal = box_or_film_refusal(box, f)
    if refusal:
        return refusal
    blocks = blocks_of(box)
    best = best_stack(blocks, stacks_without(len(blocks), barred), f, z)
    return [len(best)] + best if best else [-5]


def next_of(f, z, up, box, barred):
    """As stack, for the greatest length that's at most z if up is 0, else for the least that's at least z;
    -5: no stack has such a length."""
    refusal = box_or_film_refusal(box, f)
    if refusal:
        return refusal
    blocks = blocks_of(box)
    stacks = stacks_without(len(blocks), barred)
    best = best_stack(blocks, stacks, f, nearest_length(lengths_of(blocks, stacks), z, up))
    return [len(best)] + best if best else [-5]


def gap(first, to, by, box, barred):
    """1, then the first of the lengths first, first + by, first + 2 by, .. up to `to` that no stack has; 0: there's
    none; -1 and -2 as of box; -3: by is below 1."""
    refusal = box_refusal(box)
    if refusal:
        return refusal
    if by < 1:
        return [-3]
    blocks = blocks_of(box)
    found = first_gap(lengths_of(blocks, stacks_without(len(blocks), barred)), first, to, by)
    return [1] + found if found else [0]
