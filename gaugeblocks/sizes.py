"""The calls. Each answers a list of whole numbers; a refusal is its number alone."""

from gaugeblocks.limits import GREATEST_WIDTH_GRADE, are_fit, code_limits, is_code, is_nominal, unit_of, width_of


def unit(n):
    """The unit of n, or -3: n is no nominal size."""
    if not is_nominal(n):
        return [-3]
    return [unit_of(n)]


def width(n, g):
    """The width of grade g of n, or -3: n is no nominal size, or g is above 21."""
    if not is_nominal(n) or g > GREATEST_WIDTH_GRADE:
        return [-3]
    return [width_of(n, g)]


def code(n, letter, g):
    """0, lo and hi of a code; or -3: n is no nominal size, -5: it's no code, -4: its limits aren't fit for n."""
    if not is_nominal(n):
        return [-3]
    if not is_code(letter, g):
        return [-5]
    limits = code_limits(n, letter, g)
    if not are_fit(n, limits[0], limits[1]):
        return [-4]
    return [0] + limits
