"""One sum over many rows of the same width, by a tree of sums."""

from longsums.row import sum_of

# The byte in front tells a row's sum from a pair's, so that no row can pass for a pair of sums.
ROW_SIGN = 0
PAIR_SIGN = 1


def row_sums(kind, width, count, rows):
    return [sum_of(kind, [ROW_SIGN] + rows[place * width:(place + 1) * width]) for place in range(count)]


def sums_above(kind, sums):
    above = []
    for place in range(0, len(sums) - 1, 2):
        above.append(sum_of(kind, [PAIR_SIGN] + sums[place] + sums[place + 1]))
    if len(sums) % 2 == 1:
        above.append(sums[-1])
    return above


def tree_sum(kind, width, count, rows):
    sums = row_sums(kind, width, count, rows)
    while len(sums) > 1:
        sums = sums_above(kind, sums)
    return sums[0]
