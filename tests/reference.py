"""What DOC.md says of sizes, worked out another way than the package does, and sizes to try."""

import math

GREATEST = 2147483647
NOT_NOMINAL = (0, -1, -2, GREATEST + 1, 2 ** 32, -2 ** 31, -2 ** 40, 2 ** 40)
SHAFTS = "abcdefghijklmnopqrstuvwxyz"
HOLES = SHAFTS.upper()
LETTERS = [ord(letter) for letter in SHAFTS + HOLES]
NOT_LETTERS = (0, 1, 48, 64, 91, 95, 96, 123, 128, 255, 256 + 97, 65536 + 72, 4294967295)


def unit_edges():
    """Every size at which the unit is about to change or just has, and both ends."""
    sizes = [1]
    u = 1
    while 111 * u ** 3 < GREATEST:
        sizes += [111 * u ** 3, 111 * u ** 3 + 1]
        u += 1
    return sizes + [GREATEST]


def many_sizes():
    """unit_edges and a spread of sizes between them, rising."""
    spread = [1 + k * 7919 * 1009 for k in range(268)]
    return sorted(set(unit_edges() + spread + list(range(1, 1200, 7))))


def unit(n):
    return next(u for u in range(1, 300) if 111 * u ** 3 >= n)


def width(n, g):
    return math.isqrt(unit(n) ** 2 * 2 ** g - 1) + 1


def step(n, k):
    return width(n, k + 3) if k else 0


def limits(n, letter, g):
    """lo and hi of a code: the document's four cases as they stand there."""
    w = width(n, g)
    name = chr(letter)
    if name in SHAFTS:
        m = SHAFTS.index(name) + 1 - 8
        if m <= 0:
            hi = -step(n, -m)
            return hi - w, hi
        lo = step(n, m)
        return lo, lo + w
    m = HOLES.index(name) + 1 - 8
    if m <= 0:
        lo = step(n, -m)
        return lo, lo + w
    hi = -step(n, m)
    return hi - w, hi


def code(n, letter, g):
    """What code answers for a nominal size and a code."""
    lo, hi = limits(n, letter, g)
    fit = lo <= hi and n + lo >= 1 and abs(lo) <= 2 ** 30 and abs(hi) <= 2 ** 30
    return [0, lo, hi] if fit else [-4]
