"""Sets that are made from numbers alone: line, rest and twos."""

from sumsets.machine import WIDEST, Machine, least_machine
from sumsets.refusals import WrongArgument

LARGEST_FACTOR = 16
LARGEST_TOTAL = 2147483647
LARGEST_DIVISOR = 512
EQUAL = 0
AT_MOST = 1
OTHER = 2


# A state is the total that is left for the bits not yet read, these counted as if from bit 0 on:
# the bits that are read are taken off, and what remains is halved. It's None if a half is left
# over, for then no bits to come can make the sum equal to the total.
def line_set(width, factors, total, kind):
    check_sum(width, factors, total)
    if kind > OTHER:
        raise WrongArgument()
    gains = letter_sums(width, factors)

    def nexts_at_most(left):
        return [(left - gain) // 2 for gain in gains]

    def nexts_equal(left):
        if left is None:
            return [None for gain in gains]
        return [None if (left - gain) % 2 == 1 else (left - gain) // 2 for gain in gains]

    if kind == AT_MOST:
        return least_machine(width, total, nexts_at_most, lambda left: left >= 0)
    if kind == EQUAL:
        return least_machine(width, total, nexts_equal, lambda left: left == 0)
    return least_machine(width, total, nexts_equal, lambda left: left != 0)


# A state is a divisor and the remainder that the bits not yet read must leave, as above;
# it's None if no bits to come can leave it.
def rest_set(width, factors, total, divisor):
    check_sum(width, factors, total)
    if divisor < 1 or divisor > LARGEST_DIVISOR:
        raise WrongArgument()
    gains = letter_sums(width, factors)

    def nexts(state):
        if state is None:
            return [None for gain in gains]
        return [halved(state[0], state[1] - gain) for gain in gains]

    def is_end(state):
        return state is not None and state[1] == 0

    return least_machine(width, (divisor, total % divisor), nexts, is_end)


# Which numbers y make 2 y leave the remainder that left does? An odd divisor has just one half
# of each remainder; an even one has to be halved itself.
def halved(divisor, left):
    remainder = left % divisor
    if divisor % 2 == 0:
        return None if remainder % 2 == 1 else (divisor // 2, remainder // 2)
    return (divisor, remainder // 2 if remainder % 2 == 0 else (remainder + divisor) // 2)


def twos_set():
    return Machine(1, [0, 1, 0], [[0, 1], [1, 2], [2, 2]])


def check_sum(width, factors, total):
    if width > WIDEST or len(factors) < width:
        raise WrongArgument()
    if any([abs(factor) > LARGEST_FACTOR for factor in factors[:width]]):
        raise WrongArgument()
    if abs(total) > LARGEST_TOTAL:
        raise WrongArgument()


# What each letter's bits add to the sum.
def letter_sums(width, factors):
    gains = [0]
    for factor in factors[:width]:
        gains = gains + [gain + factor for gain in gains]
    return gains
