"""Stacks of a box's blocks: which there are, how long and how sure they are, and which is the best."""

MOST_IN_STACK = 5
GREATEST_FILM = 1000


def is_stack(count, row):
    """Whether the row is a stack of a box of that many blocks."""
    if len(row) < 1 or len(row) > MOST_IN_STACK or row[-1] >= count:
        return False
    # a row that rises is below its last number all along
    return all([row[k] < row[k + 1] for k in range(len(row) - 1)])


def length_of(blocks, row):
    return sum([blocks[number][0] for number in row])


def least_of(blocks, row):
    return sum([blocks[number][0] + blocks[number][1] for number in row])


def most_of(blocks, row, f):
    return sum([blocks[number][0] + blocks[number][2] for number in row]) + f * (len(row) - 1)


def doubt_of(blocks, row, f):
    return most_of(blocks, row, f) - least_of(blocks, row)


def one_longer(rows, free):
    """Every row with one more of the free numbers behind it, so that it still rises."""
    longer = []
    for row in rows:
        longer.extend([row + [number] for number in free if number > row[-1]])
    return longer


def stacks_without(count, barred):
    """All stacks of a box of that many blocks in which no barred number stands."""
    free = [number for number in range(count) if number not in barred]
    rows = [[number] for number in free]
    stacks = list(rows)
    for size in range(2, MOST_IN_STACK + 1):
        rows = one_longer(rows, free)
        stacks.extend(rows)
    return stacks


def is_better(blocks, f, row, other):
    if len(row) != len(other):
        return len(row) < len(other)
    doubt = doubt_of(blocks, row, f)
    other_doubt = doubt_of(blocks, other, f)
    if doubt != other_doubt:
        return doubt < other_doubt
    return row < other


def best_stack(blocks, stacks, f, length):
    """The best of these stacks that have the length, or an empty list."""
    best = []
    for row in stacks:
        if length_of(blocks, row) == length and (not best or is_better(blocks, f, row, best)):
            best = row
    return best


def lengths_of(blocks, stacks):
    return [length_of(blocks, row) for row in stacks]


def nearest_length(lengths, z, up):
    """The greatest of the lengths that's at most z if up is 0, else the least that's at least z; 0 if there's none."""
    # no block has length 0, so no stack has
    if up == 0:
        return max([length for length in lengths if length <= z], default=0)
    return min([length for length in lengths if length >= z], default=0)


def first_gap(lengths, first, to, by):
    """As a list the first of first, first + by, first + 2 by, .. that's none of the lengths; an empty list if that's
    above to."""
    built = {}
    for length in lengths:
        built[length] = True
    wanted = first
    # each step passes over another of the lengths, so there are no more steps than lengths
    while wanted <= to and wanted in built:
        wanted += by
    return [wanted] if wanted <= to else []
