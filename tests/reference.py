"""What DOC.md says of sizes and boxes, worked out another way than the package does, and sizes to try."""

import itertools
import math
import re
from fractions import Fraction

GREATEST = 2147483647
NOT_NOMINAL = (0, -1, -2, GREATEST + 1, 2 ** 32, -2 ** 31, -2 ** 40, 2 ** 40)
SHAFTS = "abcdefghijklmnopqrstuvwxyz"
HOLES = SHAFTS.upper()
LETTERS = [ord(letter) for letter in SHAFTS + HOLES]
BOUND = 2 ** 30
NUMBER = r"(?:0|[1-9][0-9]{0,8})(?:\.[0-9]{0,3}[1-9])?"
DEVIATION = rf"(?:\+{NUMBER}|-(?!0(?![.])){NUMBER})"
FORMS = (
    re.compile(rf"({NUMBER})"),
    re.compile(rf"({NUMBER}) \+-({NUMBER})"),
    re.compile(rf"({NUMBER}) ({DEVIATION}) ({DEVIATION})"),
    re.compile(rf"({NUMBER}) ([A-Za-z])(0|[1-9]|1[0-6])"),
)
# a text that begins a size's is made one by one of these
ENDINGS = ("", "1", ".1", "+-1", "-1", " +1", "+1", "1 +1", ".1 +1")
# the document's box
SIX_LINES = "1 +-0.0001\n1.01 +-0.0001\n1.1 +-0.0002\n2 +-0.0001\n10 +0.0002 -0.0001\n20 +-0.0003\n"
NOT_LETTERS = (0, 1, 48, 64, 91, 95, 96, 123, 128, 255, 256 + 97, 65536 + 72, 4294967295)


def unit_edges():
    """Every size at which the unit is about to change or just has, and both ends."""
    sizes = [1]
    u = 1
    while 111 * u ** 3 < GREATEST:
        sizes += [111 * u ** 3, 111 * u ** 3 + 1]
        u += 1
    return sizes + [GREATEST]


def many_sizes():
    """unit_edges and a spread of sizes between them, rising."""
    spread = [1 + k * 7919 * 1009 for k in range(268)]
    return sorted(set(unit_edges() + spread + list(range(1, 1200, 7))))


def unit(n):
    return next(u for u in range(1, 300) if 111 * u ** 3 >= n)


def width(n, g):
    return math.isqrt(unit(n) ** 2 * 2 ** g - 1) + 1


def step(n, k):
    return width(n, k + 3) if k else 0


def limits(n, letter, g):
    """lo and hi of a code: the document's four cases as they stand there."""
    w = width(n, g)
    name = chr(letter)
    if name in SHAFTS:
        m = SHAFTS.index(name) + 1 - 8
        if m <= 0:
            hi = -step(n, -m)
            return hi - w, hi
        lo = step(n, m)
        return lo, lo + w
    m = HOLES.index(name) + 1 - 8
    if m <= 0:
        lo = step(n, -m)
        return lo, lo + w
    hi = -step(n, m)
    return hi - w, hi


def code(n, letter, g):
    """What code answers for a nominal size and a code."""
    lo, hi = limits(n, letter, g)
    return [0, lo, hi] if fit_for(n, lo, hi) else [-4]


def fit_for(n, lo, hi):
    return lo <= hi and n + lo >= 1 and abs(lo) <= BOUND and abs(hi) <= BOUND


def as_bytes(text):
    return list(text.encode("latin-1"))


def as_text(numbers):
    return bytes(numbers).decode("latin-1")


def ticks(number):
    value = Fraction(number) * 10000
    assert value.denominator == 1
    return int(value)


def form_of(text):
    """The form that the text has by its shape and what it's made of, or None."""
    for form, pattern in enumerate(FORMS):
        found = pattern.fullmatch(text)
        if found:
            return form, found
    return None


def begins_a_size(text):
    return any(form_of(text + ending) for ending in ENDINGS)


def shape_place(text):
    """The place of fault 1 of a text that has it."""
    for place in range(len(text)):
        if not begins_a_size(text[:place + 1]):
            return place
    return len(text)


def limits_said(form, found):
    if form == 0:
        return 0, 0
    if form == 1:
        return -ticks(found[2]), ticks(found[2])
    if form == 2:
        return ticks(found[3]), ticks(found[2])
    return limits(ticks(found[1]), ord(found[2]), int(found[3]))


def read(text):
    """What read answers of a text of 64 bytes at most, which is a str here."""
    shape = form_of(text)
    if shape is None:
        return [-2, 1, shape_place(text)]
    form, found = shape
    n = ticks(found[1])
    if not 1 <= n <= GREATEST:
        return [-2, 2, 0]
    lo, hi = limits_said(form, found)
    for group in {1: [2], 2: [2, 3]}.get(form, []):
        if abs(ticks(found[group])) > BOUND:
            return [-2, 3, found.start(group) + form - 1]
    if form == 2 and lo > hi:
        return [-2, 4, found.start(3)]
    if not fit_for(n, lo, hi):
        return [-2, 5, len(found[1]) + 1]
    letter, grade = (ord(found[2]), int(found[3])) if form == 3 else (0, 0)
    return [0, n, lo, hi, form, letter, grade]


def number_text(value):
    whole, rest = divmod(value, 10000)
    return f"{whole}.{rest:04}".rstrip("0").rstrip(".") if rest else str(whole)


def deviation_text(value):
    return ("-" if value < 0 else "+") + number_text(abs(value))


def size_text(n, lo, hi, form, letter=0, grade=0):
    """The size written; of numbers that can't be written, something that's no size's text."""
    if min(n, form) < 0 or form > 3 or (form == 1 and hi < 0) or (form == 3 and letter > 255):
        return "none"
    tails = ("", f" +-{number_text(abs(hi))}", f" {deviation_text(hi)} {deviation_text(lo)}",
             f" {chr(letter % 256)}{grade}")
    return number_text(n) + tails[form]


def write(n, lo, hi, form, letter, grade):
    """What write answers."""
    text = size_text(n, lo, hi, form, letter, grade)
    if read(text) != [0, n, lo, hi, form, letter, grade]:
        return [-3]
    return [len(text)] + as_bytes(text)


def all_codes(n, hole):
    """Of all codes of a kind, whose limits are fit for n: grade, lo, hi and letter."""
    rows = [(g,) + limits(n, ord(letter), g) + (ord(letter),) for letter in (HOLES if hole else SHAFTS) for g in range(17)]
    return [row for row in rows if fit_for(n, row[1], row[2])]


def inside(codes, lo, hi):
    """What inside answers, by a search through all_codes."""
    within = [(-g, low, letter) for g, low, high, letter in codes if lo <= low and high <= hi]
    if not within:
        return [-5]
    grade, low, letter = min(within)
    return [0, letter, -grade]


def is_block(size):
    n, lo, hi, form = size[1:5]
    return form < 3 and n % 10 == 0 and 10 <= n <= 1000000 and -4096 <= lo <= hi <= 4096 and n + lo >= 1


def line_fault(line, begin, number):
    if number == 20:
        return [-2, 8, begin]
    size = read(line)
    if size[0] == -2:
        return [-2, size[1], size[2] + begin]
    return [] if is_block(size) else [-2, 6, begin]


def box(text):
    """What box answers of a text of 4,096 bytes at most, which is a str here."""
    if text == "":
        return [-2, 7, 0]
    begin = 0
    answer = [0]
    for line in re.findall("[^\n]*\n|[^\n]+", text):
        bare = line.rstrip("\n")
        found = line_fault(bare, begin, answer[0])
        if not found and bare == line:
            found = [-2, 7, len(text)]
        if found:
            return found
        answer = [answer[0] + 1] + answer[1:] + read(bare)[1:4]
        begin += len(line)
    return answer


def box_text(blocks):
    """The text of a box, its blocks told as length, lo and hi."""
    forms = [0 if lo == hi == 0 else 1 if lo == -hi else 2 for length, lo, hi in blocks]
    return "".join(size_text(*block, form) + "\n" for block, form in zip(blocks, forms))


def blocks_of(answer):
    """The blocks in an answer of box."""
    return [tuple(answer[k:k + 3]) for k in range(1, len(answer), 3)]


def stacks(count, barred=()):
    free = [number for number in range(count) if number not in barred]
    return [row for size in range(1, 6) for row in itertools.combinations(free, size)]


def true_of(blocks, f, row):
    """Length, least and most of a stack, its blocks one on another."""
    length = least = most = 0
    for place, number in enumerate(row):
        block = blocks[number]
        length += block[0]
        least += block[0] + block[1]
        most += block[0] + block[2] + (f if place > 0 else 0)
    return length, least, most


def ranked(blocks, f, barred=()):
    """All stacks without barred numbers by their lengths, the better one of two first."""
    by_length = {}
    for row in stacks(len(blocks), barred):
        length, least, most = true_of(blocks, f, row)
        by_length.setdefault(length, []).append((len(row), most - least, row))
    return {length: [list(rank[2]) for rank in sorted(ranks)] for length, ranks in by_length.items()}


def stack(by_length, z):
    """What stack answers, by what ranked tells."""
    best = by_length.get(z, [[]])[0]
    return [len(best)] + best if best else [-5]


def next_of(by_length, z, up):
    """What next_of answers, by what ranked tells."""
    reached = sorted(length for length in by_length if (length >= z if up else length <= z))
    return stack(by_length, reached[0 if up else -1]) if reached else [-5]


def gap(by_length, first, to, by):
    """What gap answers, by what ranked tells."""
    return next(([1, z] for z in range(first, to + 1, by) if z not in by_length), [0])


def small_boxes():
    """Boxes of few blocks whose stacks have many lengths in common, each as its blocks."""
    boxes = []
    for seed in range(40):
        count = 1 + seed % 7
        numbers = [(seed * 7919 + k * 104729 + k * k * 31 * seed) % 1009 for k in range(count)]
        boxes.append([(10 * (1 + number % (3 + seed % 5)), -(number % 4), number // 9 % 5) for number in numbers])
    return boxes
