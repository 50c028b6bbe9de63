"""Numbers, deviations and grades in a text of bytes.

What looks for one of them from a place on (number_at, deviation_at, grade_at) answers a list of two:
the first place whose byte can't belong to it, and what it says, or None if it isn't whole there.
"""

BLANK = 32
PLUS = 43
MINUS = 45
POINT = 46
ZERO = 48
ONE = 49
SIX = 54
NINE = 57
TICKS = 10000
MOST_DIGITS = 9
MOST_DECIMALS = 4
# the ticks of a last digit of 1, by how many digits stand between the point and it
DECIMAL_TICKS = (1000, 100, 10, 1)


def byte_at(text, place):
    """The byte at the place, or -1 behind the text's last."""
    return text[place] if place < len(text) else -1


def is_digit(byte):
    return ZERO <= byte <= NINE


def is_sign(byte):
    return byte == PLUS or byte == MINUS


def digits_end(text, start, most):
    """The place behind the digits from start on, of which no more than `most` count."""
    end = start
    while end < start + most and is_digit(byte_at(text, end)):
        end += 1
    return end


def digits_value(text, start, end):
    value = 0
    for byte in text[start:end]:
        value = value * 10 + byte - ZERO
    return value


def whole_end(text, start):
    # a 0 in front is all there is ahead of a point
    return digits_end(text, start, 1 if byte_at(text, start) == ZERO else MOST_DIGITS)


def decimals_end(text, start):
    end = digits_end(text, start, MOST_DECIMALS)
    # a last 0 needs another digit behind it, and behind the fourth none may stand
    if end == start + MOST_DECIMALS and text[end - 1] == ZERO:
        return end - 1
    return end


def number_at(text, start):
    point = whole_end(text, start)
    if point == start:
        return [start, None]
    ticks = digits_value(text, start, point) * TICKS
    if byte_at(text, point) != POINT:
        return [point, ticks]
    end = decimals_end(text, point + 1)
    if end == point + 1 or text[end - 1] == ZERO:
        return [end, None]
    return [end, ticks + digits_value(text, point + 1, end) * DECIMAL_TICKS[end - point - 2]]


def deviation_at(text, start):
    """As number_at, from the sign on, which stands at start."""
    number = number_at(text, start + 1)
    if text[start] == PLUS or number[1] is None:
        return number
    # minus 0 is no deviation, but may go on to one
    return [number[0], None if number[1] == 0 else -number[1]]


def grade_at(text, start):
    first = byte_at(text, start)
    second = byte_at(text, start + 1)
    if not is_digit(first):
        return [start, None]
    if first == ONE and ZERO <= second <= SIX:
        return [start + 2, 10 + second - ZERO]
    return [start + 1, first - ZERO]


def bytes_of(text):
    return [ord(sign) for sign in text]


def number_bytes(ticks):
    whole = bytes_of(str(ticks // TICKS))
    decimals = bytes_of(str(ticks % TICKS).zfill(MOST_DECIMALS).rstrip("0"))
    return whole + [POINT] + decimals if decimals else whole


def deviation_bytes(ticks):
    return [MINUS if ticks < 0 else PLUS] + number_bytes(abs(ticks))
