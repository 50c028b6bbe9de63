"""Sizes' texts: their faults, what they say, and how a size is written."""

from gaugeblocks.figures import BLANK, MINUS, PLUS, byte_at, bytes_of, deviation_at, deviation_bytes, grade_at
from gaugeblocks.figures import is_sign, number_at, number_bytes
from gaugeblocks.limits import GREATEST_DEVIATION, are_fit, code_limits, is_code, is_letter, is_nominal

ALONE = 0
BOTH_WAYS = 1
TWO_DEVIATIONS = 2
CODE = 3


def end_fault(text, found):
    """The place of fault 1, or -1, if the text must end with what was found (as number_at tells it)."""
    return -1 if found[1] is not None and found[0] == len(text) else found[0]


def deviations_fault(text, start):
    """The place of fault 1, or -1, of two deviations from start on, where a sign stands."""
    upper = deviation_at(text, start)
    end = upper[0]
    if upper[1] is None or byte_at(text, end) != BLANK:
        return end
    if not is_sign(byte_at(text, end + 1)):
        return end + 1
    return end_fault(text, deviation_at(text, end + 1))


def tail_fault(text, start):
    """The place of fault 1, or -1, of what stands behind the blank that follows the first number."""
    first = byte_at(text, start)
    if first == PLUS and byte_at(text, start + 1) == MINUS:
        return end_fault(text, number_at(text, start + 2))
    if is_sign(first):
        return deviations_fault(text, start)
    if is_letter(first):
        return end_fault(text, grade_at(text, start + 1))
    return start


def shape_fault(text):
    """The place of fault 1, or -1 if the text is a size's by its shape."""
    number = number_at(text, 0)
    end = number[0]
    if number[1] is not None and byte_at(text, end) == BLANK:
        return tail_fault(text, end + 1)
    return end_fault(text, number)


def fault(kind, place):
    return [-2, kind, place]


def fit_or_fault(size, end):
    """0 and the size's six numbers, or fault 5; end is the length of the first number."""
    if not are_fit(size[0], size[1], size[2]):
        return fault(5, end + 1)
    return [0] + size


def size_both_ways(text, n, end):
    ticks = number_at(text, end + 3)[1]
    if ticks > GREATEST_DEVIATION:
        return fault(3, end + 3)
    return fit_or_fault([n, -ticks, ticks, BOTH_WAYS, 0, 0], end)


def size_of_deviations(text, n, end):
    upper = deviation_at(text, end + 1)
    second = upper[0] + 1
    hi = upper[1]
    lo = deviation_at(text, second)[1]
    if abs(hi) > GREATEST_DEVIATION:
        return fault(3, end + 2)
    if abs(lo) > GREATEST_DEVIATION:
        return fault(3, second + 1)
    if lo > hi:
        return fault(4, second)
    return fit_or_fault([n, lo, hi, TWO_DEVIATIONS, 0, 0], end)


def size_of_code(text, n, end):
    letter = text[end + 1]
    grade = grade_at(text, end + 2)[1]
    limits = code_limits(n, letter, grade)
    return fit_or_fault([n, limits[0], limits[1], CODE, letter, grade], end)


def size_of(text):
    """0 and the six numbers that the text says, or -2 and its fault's kind and place."""
    wrong = shape_fault(text)
    if wrong >= 0:
        return fault(1, wrong)
    number = number_at(text, 0)
    end = number[0]
    n = number[1]
    if not is_nominal(n):
        return fault(2, 0)
    if end == len(text):
        return [0, n, 0, 0, ALONE, 0, 0]
    if is_letter(text[end + 1]):
        return size_of_code(text, n, end)
    if text[end + 2] == MINUS:
        return size_both_ways(text, n, end)
    return size_of_deviations(text, n, end)


def is_right(n, lo, hi, form, letter, grade):
    """Whether the size, written, is a text without a fault that says just these six."""
    if not is_nominal(n) or not are_fit(n, lo, hi):
        return False
    if form == CODE:
        return is_code(letter, grade) and code_limits(n, letter, grade) == [lo, hi]
    if letter != 0 or grade != 0:
        return False
    if form == ALONE:
        return lo == 0 and hi == 0
    if form == BOTH_WAYS:
        return lo == -hi
    return form == TWO_DEVIATIONS


def size_bytes(n, lo, hi, form, letter, grade):
    """The text of a size that is right."""
    text = number_bytes(n)
    if form == BOTH_WAYS:
        return text + [BLANK, PLUS, MINUS] + number_bytes(hi)
    if form == TWO_DEVIATIONS:
        return text + [BLANK] + deviation_bytes(hi) + [BLANK] + deviation_bytes(lo)
    if form == CODE:
        return text + [BLANK, letter] + bytes_of(str(grade))
    return text
