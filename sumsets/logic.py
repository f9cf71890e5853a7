"""Sets that are made from other sets: join, some, wide and turn."""

from sumsets.machine import WIDEST, least_machine
from sumsets.refusals import WrongArgument

LARGEST_TABLE = 15
MOST_PAIRS = 2048
MOST_BUNDLES = 1024


def join_sets(one, other, table):
    if one.width != other.width or table > LARGEST_TABLE:
        raise WrongArgument()

    def nexts(pair):
        return list(zip(one.steps[pair[0]], other.steps[pair[1]]))

    def is_end(pair):
        bit = 2 * one.ends[pair[0]] + other.ends[pair[1]]
        return (table >> bit) & 1 == 1

    return least_machine(one.width, (0, 0), nexts, is_end, MOST_PAIRS)


# A bundle is kept as a number whose bit s is 1 if state s is in it.
def some_set(one, place):
    if place >= one.width:
        raise WrongArgument()
    width = one.width - 1
    letters = [with_bit(letter, place) for letter in range(1 << width)]
    behind = [small_bundles(row, letters, place) for row in one.steps]
    hopeful = hopeful_states(one, place)

    def nexts(bundle):
        reached = [0 for letter in letters]
        for state, small in enumerate(behind):
            if (bundle >> state) & 1 == 1:
                reached = [known | more for known, more in zip(reached, small)]
        return reached

    return least_machine(width, 1, nexts, lambda bundle: bundle & hopeful != 0, MOST_BUNDLES)


# The one or two states behind a state, as the bit of the number that is put in may be 0 or 1.
def small_bundles(row, letters, place):
    bit = 1 << place
    return [(1 << row[letter]) | (1 << row[letter | bit]) for letter in letters]


# The number that is put in may be longer than all the others, so a word may have to go on
# by bits of this number alone before it comes to an end.
def hopeful_states(one, place):
    hopeful = 0
    for state, end in enumerate(one.ends):
        hopeful = hopeful | (end << state)
    before = -1
    while hopeful != before:
        before = hopeful
        for state, row in enumerate(one.steps):
            behind = (1 << row[0]) | (1 << row[1 << place])
            if behind & hopeful != 0:
                hopeful = hopeful | (1 << state)
    return hopeful


def wide_set(one, place):
    if one.width == WIDEST or place > one.width:
        raise WrongArgument()
    width = one.width + 1
    letters = [without_bit(letter, place) for letter in range(1 << width)]
    return relettered(one, width, letters)


def turn_set(one, order):
    kept = order[:one.width]
    if sorted(kept) != list(range(one.width)):
        raise WrongArgument()
    letters = [turned(letter, kept) for letter in range(1 << one.width)]
    return relettered(one, one.width, letters)


# Other letters may come to the states in another order, so these are walked and numbered anew.
def relettered(one, width, letters):
    def nexts(state):
        return [one.steps[state][letter] for letter in letters]

    return least_machine(width, 0, nexts, lambda state: one.ends[state] == 1)


def with_bit(letter, place):
    low = letter & ((1 << place) - 1)
    return low | ((letter - low) << 1)


def without_bit(letter, place):
    low = letter & ((1 << place) - 1)
    return low | ((letter >> (place + 1)) << place)


def turned(letter, order):
    made = 0
    for bit, place in enumerate(order):
        made = made | (((letter >> place) & 1) << bit)
    return made
