"""What the calls rest on: nominal sizes, units, widths, steps, and the limits of codes."""

GREATEST_SIZE = 2147483647
GREATEST_DEVIATION = 1073741824
GREATEST_WIDTH_GRADE = 21
GREATEST_CODE_GRADE = 16
LETTERS = 26


def is_nominal(n):
    return 1 <= n <= GREATEST_SIZE


def are_fit(n, lo, hi):
    # lo is at most hi, so one bound for each holds both within the range
    return lo <= hi and n + lo >= 1 and lo >= -GREATEST_DEVIATION and hi <= GREATEST_DEVIATION


def unit_of(n):
    # no nominal size has a unit above 269, so counting up is short
    u = 1
    while 111 * u * u * u < n:
        u += 1
    return u


def root_up(square):
    """The least whole number whose square is at least `square`, which is 1 or more."""
    short = 0
    enough = square
    while enough - short > 1:
        middle = (short + enough) // 2
        if middle * middle < square:
            short = middle
        else:
            enough = middle
    return enough


def width_of(n, g):
    u = unit_of(n)
    return root_up((u * u) << g)


def step_of(n, k):
    return 0 if k == 0 else width_of(n, k + 3)


def is_shaft_letter(letter):
    return ord("a") <= letter <= ord("z")


def is_hole_letter(letter):
    return ord("A") <= letter <= ord("Z")


def is_letter(byte):
    return is_shaft_letter(byte) or is_hole_letter(byte)


def is_code(letter, g):
    return is_letter(letter) and g <= GREATEST_CODE_GRADE


def letter_number(letter):
    """The letter's place in the alphabet less 8, so that h and H have 0."""
    return letter - (ord("h") if is_shaft_letter(letter) else ord("H"))


def code_limits(n, letter, g):
    """The code's limits for the nominal size n, as a list of lo and hi."""
    m = letter_number(letter)
    step = step_of(n, abs(m))
    w = width_of(n, g)
    # a hole's limits are those of the like shaft, mirrored at 0
    if is_shaft_letter(letter) == (m > 0):
        return [step, step + w]
    return [-step - w, -step]


def lowest_letter(n, lo, hi, first, g):
    """Of the 26 letters from first on that make codes of grade g inside lo and hi the one of the least lo, or 0."""
    found = 0
    lowest = 0
    for letter in range(first, first + LETTERS):
        limits = code_limits(n, letter, g)
        inside = lo <= limits[0] and limits[1] <= hi and are_fit(n, limits[0], limits[1])
        if inside and (found == 0 or limits[0] < lowest):
            found = letter
            lowest = limits[0]
    return found


def widest_code(n, lo, hi, first):
    """The letter and the grade of the widest code inside lo and hi, as a list; an empty one if there's none."""
    for g in range(GREATEST_CODE_GRADE, -1, -1):
        letter = lowest_letter(n, lo, hi, first, g)
        if letter > 0:
            return [letter, g]
    return []
