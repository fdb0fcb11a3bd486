"""Sums and comparisons of clocks' readings, untils, lengths and bounds."""


def last_fresh(until, bound):
    # The reader's clock may be twice the bound behind the keeper's, which lets changes through once it is past until.
    return until - 2 * bound


def is_fresh(clock, until, bound):
    return clock <= last_fresh(until, bound)


def held_until(clock, untils):
    return max([until for until in untils if clock <= until], default=None)


def quiet_until(clock, length, bound):
    # What was lent ahead of the stop may have been lent while the clock was ahead by up to twice the bound.
    return clock + length + 2 * bound


def longest_wait(length, bound):
    return length + 4 * bound


def within(offset, bound):
    return -bound <= offset <= bound
