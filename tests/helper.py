"""What the tests share: the calls in short, and a plain reckoning of the document's words on machines.

Nothing here is taken from the package but the desk itself: whether a machine is the least, is numbered
as told and tells just the members of a set is found out again, by other means.
"""

import collections
import functools
import itertools
import math
import random

from sumsets.desk import Desk, answers, answers_on

LARGEST_C = 2147483647
LARGEST_WHOLE = 2**63 - 1
BEGIN = [0]
SMALL_BOX = {0: 1, 1: 150, 2: 18, 3: 8, 4: 5}


def line(t, a, c, kind, k=None):
    return [1, t, len(a) if k is None else k, c, kind, len(a)] + a


def rest(t, a, c, m, k=None):
    return [2, t, len(a) if k is None else k, c, m, len(a)] + a


def twos(t):
    return [3, t]


def join(t, x, y, table):
    return [4, t, x, y, table]


def some(t, x, i):
    return [5, t, x, i]


def wide(t, x, i):
    return [6, t, x, i]


def turn(t, x, p):
    return [7, t, x, len(p)] + p


def load(t, b):
    return [8, t, len(b)] + b


def save(x):
    return [9, x]


def size_of(x):
    return [10, x]


def width_of(x):
    return [11, x]


def next_of(x, s, a):
    return [12, x, s, a]


def end_of(x, s):
    return [13, x, s]


def has(x, r):
    return [14, x, len(r)] + list(r)


def same(x, y):
    return [15, x, y]


def answered(*calls):
    """The one number that each call answers, on a new object."""
    return numbers_of(answers([number for call in calls for number in call]))


def numbers_of(given):
    parts = parted(given)
    assert all(len(part) == 1 for part in parts), given
    return [part[0] for part in parts]


def parted(given):
    """What each call answers, as lists."""
    parts = []
    while given:
        parts.append(given[1 : 1 + given[0]])
        assert len(parts[-1]) == given[0], given
        given = given[1 + given[0] :]
    return parts


def saved(*calls, at=0):
    """The bytes of the set at a place behind calls that must all answer 0."""
    parts = parted(answers([number for call in calls for number in call] + save(at)))
    assert parts[:-1] == [[0]] * len(calls), parts
    assert parts[-1][:2] == [0, len(parts[-1]) - 2], parts[-1]
    return parts[-1][2:]


Machine = collections.namedtuple("Machine", "width ends steps")


def read(b):
    """The machine that bytes write down, of whatever sort."""
    letters = 1 << b[0]
    rest_of = b[3:]
    ends, steps = [], []
    while rest_of:
        ends.append(rest_of[0])
        pairs = rest_of[1 : 1 + 2 * letters]
        steps.append([low + 256 * high for low, high in zip(pairs[0::2], pairs[1::2], strict=True)])
        rest_of = rest_of[1 + 2 * letters :]
    assert b[1] + 256 * b[2] == len(ends), b
    return Machine(b[0], ends, steps)


def written(width, ends, steps):
    """The bytes of a machine, of whatever sort."""
    b = [width, len(ends) & 255, len(ends) >> 8]
    for end, row in zip(ends, steps):
        b += [end] + [byte for state in row for byte in (state & 255, state >> 8)]
    return b


def desk_after(*calls):
    """The object behind calls that must all answer 0."""
    desk = Desk()
    given = numbers_of(answers_on(desk, [number for call in calls for number in call]))
    assert given == [0] * len(calls), given
    return desk


def made(*calls, at=0):
    """The machine at a place behind calls that must all answer 0, as its bytes tell it."""
    return read(saved(*calls, at=at))


def held_by(desk):
    """All that stands at the places, copied."""
    return {place: whole(machine) for place, machine in desk.held.items()}


def whole(machine):
    return (machine.width, list(machine.ends), [list(row) for row in machine.steps])


# Words and rows


@functools.lru_cache(maxsize=20000)
def word_of(row, length):
    return [sum((x >> j & 1) << i for i, x in enumerate(row)) for j in range(length)]


def row_of(word, width):
    return [sum((letter >> i & 1) << j for j, letter in enumerate(word)) for i in range(width)]


def shortest(row):
    return max([x.bit_length() for x in row], default=0)


def said(machine, row):
    """What the machine says of a row by its shortest word and by the four next longer ones."""
    least = shortest(row)
    state = 0
    ends = [machine.ends[0]]
    for letter in word_of(row, least + 4):
        state = machine.steps[state][letter]
        ends.append(machine.ends[state])
    return ends[least:]


def tells(machine, row):
    ends = set(said(machine, row))
    assert len(ends) == 1, (row, ends)
    return ends == {1}


def small_rows(width):
    return itertools.product(range(SMALL_BOX[width]), repeat=width)


def large_rows(width, count, seed):
    source = random.Random(seed)
    for number in range(count):
        bits = [source.choice([3, 8, 31, 32, 64, 199, 200]) for i in range(width)]
        yield tuple(source.randrange(1 << b) for b in bits)
    yield (2**200 - 1,) * width
    yield (2**199,) * width


def rows_with_sum(a, c, count, seed):
    """Rows of large numbers for which the sum is c, or nearly: all numbers but one are chosen freely."""
    source = random.Random(seed)
    for number in range(count):
        row = list(next(large_rows(len(a), 1, source.randrange(10**9))))
        i = source.randrange(len(a)) if a else 0
        if a and a[i]:
            left = c - sum(f * x for f, x in zip(a, row)) + a[i] * row[i]
            for near in range(-1, 2):
                if left // a[i] + near >= 0:
                    yield tuple(row[:i] + [left // a[i] + near] + row[i + 1 :])


def weighed(a, row):
    return sum(f * x for f, x in zip(a, row))


# Sets to begin with: what makes each at a place, and what its members are


def line_sample(a, c, kind):
    told = (lambda s: s == c, lambda s: s <= c, lambda s: s != c)[kind]
    return (lambda t: line(t, a, c, kind)), (lambda *row: told(weighed(a, row)))


def rest_sample(a, c, m):
    return (lambda t: rest(t, a, c, m)), (lambda *row: (weighed(a, row) - c) % m == 0)


def is_two(x):
    return x > 0 and x & (x - 1) == 0


SAMPLES = {
    0: [line_sample([], 0, 0), line_sample([], 1, 0)],
    1: [
        (twos, is_two),
        line_sample([1], 6, 0),
        line_sample([-3], -20, 1),
        line_sample([2], 14, 2),
        rest_sample([1], 2, 5),
        rest_sample([3], 1, 12),
        line_sample([1], LARGEST_C, 1),
    ],
    2: [
        line_sample([1, -1], 0, 1),
        line_sample([3, -5], 2, 0),
        line_sample([1, 2], 9, 2),
        rest_sample([1, 4], 3, 7),
        rest_sample([2, -1], 1, 8),
    ],
    3: [line_sample([3, 1, -1], 0, 0), line_sample([1, -2, 1], 3, 1), rest_sample([1, 2, 4], 0, 6)],
    4: [line_sample([1, 1, -1, -1], 0, 0), line_sample([2, 0, -1, 1], 1, 1), rest_sample([1, 2, 3, 4], 2, 5)],
}


# What a machine has to be


def check_form(test, machine, width):
    test.assertEqual(machine.width, width)
    test.assertLessEqual(len(machine.ends), 64)
    test.assertEqual(len(machine.steps), len(machine.ends))
    for end in machine.ends:
        test.assertIs(type(end), int)
        test.assertIn(end, (0, 1))
    for row in machine.steps:
        test.assertEqual(len(row), 1 << width)
        for state in row:
            test.assertIs(type(state), int)
            test.assertTrue(0 <= state < len(machine.ends))


def check_numbering(test, machine):
    """States are numbered in the order in which words come to them."""
    test.assertEqual(coming(machine), list(range(len(machine.ends))))


def coming(machine):
    """The states in the order in which words come to them, each by its own first word."""
    first = {0: ()}
    words = [()]
    while words:
        longer = []
        for word in words:
            state = 0
            for letter in word:
                state = machine.steps[state][letter]
            for letter, behind in enumerate(machine.steps[state]):
                if behind not in first:
                    first[behind] = word + (letter,)
                    longer.append(first[behind])
        words = longer
    return list(first)


def check_least(test, machine):
    test.assertTrue(is_least(machine))


def is_least(machine):
    """Every two states are told apart by some word, found by marking pairs backwards from the ends."""
    size = len(machine.ends)
    before = {}
    for state in range(size):
        for letter, behind in enumerate(machine.steps[state]):
            before.setdefault((behind, letter), []).append(state)
    apart = {(s, u) for s in range(size) for u in range(size) if machine.ends[s] != machine.ends[u]}
    new = list(apart)
    while new:
        s, u = new.pop()
        for letter in range(1 << machine.width):
            for pair in itertools.product(before.get((s, letter), ()), before.get((u, letter), ())):
                if pair not in apart:
                    apart.add(pair)
                    new.append(pair)
    return len(apart) == size * (size - 1)


def check_set(test, machine, width, member, rows=(), large=True):
    """Of the right form, numbered as told, the least, and telling just the members: of all small rows,
    of large ones and of those that are given, each by its shortest word and by longer ones."""
    check_form(test, machine, width)
    check_numbering(test, machine)
    check_least(test, machine)
    kinds = [small_rows(width), large_rows(width, 25, width) if large else (), rows]
    for row in itertools.chain(*kinds):
        test.assertEqual(said(machine, row), [1 if member(*row) else 0] * 5, row)


def is_of_a_set(b):
    """Whether bytes are those of a set whose machine has at most 64 states."""
    if len(b) < 3 or b[0] > 4 or not 1 <= b[1] + 256 * b[2] <= 64:
        return False
    if len(b) != 3 + (b[1] + 256 * b[2]) * (1 + 2 * 2 ** b[0]):
        return False
    machine = read(b)
    states = range(len(machine.ends))
    if any(end not in (0, 1) for end in machine.ends) or any(s not in states for row in machine.steps for s in row):
        return False
    if any(machine.ends[row[0]] != end for end, row in zip(machine.ends, machine.steps)):
        return False
    return coming(machine) == list(states) and is_least(machine)


def in_order(machine, start=0):
    """The same machine, its states numbered in the order in which words come to them."""
    order = [start]
    for state in order:
        order += [s for s in dict.fromkeys(machine.steps[state]) if s not in order]
    steps = [[order.index(s) for s in machine.steps[state]] for state in order]
    return Machine(machine.width, [machine.ends[state] for state in order], steps)


def some_machines(count, seed, largest=64):
    """Machines of sets of all widths above 0, and of all sizes, that no other call need be able to make."""
    source = random.Random(seed)
    found = 0
    while found < count:
        width = source.randrange(1, 5)
        states = range(source.randrange(1, source.choice([3, 5, 9, largest]) + 1))
        ends = [source.randrange(2) for s in states]
        alike = [[s for s in states if ends[s] == end] for end in (0, 1)]
        steps = [[source.choice(alike[ends[s]])] + source.choices(states, k=(1 << width) - 1) for s in states]
        machine = in_order(Machine(width, ends, steps))
        if is_least(machine):
            found += 1
            yield machine


# How many states there must be


def values_of(a):
    """A function that says whether a number is a sum a_0 x_0 + ... for some row."""
    g = math.gcd(*a)
    if g == 0:
        return lambda v: v == 0
    if min(a) < 0 < max(a):
        return lambda v: v % g == 0
    sign = -1 if min(a) < 0 else 1
    coins = [abs(f) // g for f in a if f]
    known = [True]
    for v in range(1, 600):
        known.append(any(v >= coin and known[v - coin] for coin in coins))
    assert all(known[300:])
    return lambda v: v % g == 0 and sign * v >= 0 and (sign * v // g >= 600 or known[sign * v // g])


def states_of_line(a, c, kind):
    """How many states the least machine has: how many different sets of rows are left to come behind words.
    Behind l letters with the sum s these are the rows y with a y = (c - s) / 2^l, and the like. Which they are
    is told by that number, if it's among the sums that come; of kind 1 by the largest such sum below it."""
    is_value = values_of(a)
    letters = [weighed(a, row_of([letter], len(a))) for letter in range(1 << len(a))]
    seen = {c}
    new = [c]
    while new:
        left = new.pop()
        for gain in letters:
            if kind != 1 and (left is None or (left - gain) % 2):
                behind = None
            else:
                behind = (left - gain) // 2
            if behind not in seen:
                seen.add(behind)
                new.append(behind)
    if kind == 1:
        return len({largest_value(a, is_value, left) for left in seen})
    return len({left if left is not None and is_value(left) else None for left in seen})


def largest_value(a, is_value, left):
    """The largest sum that comes and is at most left, or None."""
    if min(a, default=0) >= 0 and left < 0:
        return None
    if max(a, default=0) <= 0 and left > 0:
        return 0
    while not is_value(left):
        left -= 1
    return left


def states_of_rest(a, c, m):
    """The same of rest: behind l letters with sum s, (2^l v + s - c) must be a multiple of m, v being the
    sum over what's to come. That's found out for all v that can come, without any halving."""
    values = range(0, m, math.gcd(m, *a))
    letters = [weighed(a, row_of([letter], len(a))) for letter in range(1 << len(a))]
    start = (1 % m, -c % m)
    seen = {start}
    new = [start]
    while new:
        power, total = new.pop()
        for gain in letters:
            behind = (2 * power % m, (total + power * gain) % m)
            if behind not in seen:
                seen.add(behind)
                new.append(behind)
    return len({tuple(v for v in values if (power * v + total) % m == 0) for power, total in seen})


def futures(member, words, further):
    """How many of the words differ in which further rows make members of them: there are at least as many
    states. A word is given as a row and a length."""
    found = set()
    for row, length in words:
        found.add(tuple(bool(member(*[x + (y << length) for x, y in zip(row, more)])) for more in further))
    return len(found)


def some_words(width, length, count, seed):
    """Rows and lengths: count words of each length up to this one, all of them while there are so few."""
    source = random.Random(seed)
    for l in range(length + 1):
        rows = itertools.product(range(1 << l), repeat=width)
        if 1 << (l * width) > count:
            rows = [tuple(source.randrange(1 << l) for i in range(width)) for number in range(count)]
        for row in rows:
            yield row, l


def walked(start, behind, most=5000):
    """All that words lead to, each with what's behind it by letters; it's left off if they are far too many."""
    found = {start: behind(start)}
    new = [start]
    while new and len(found) < most:
        for state in found[new.pop()]:
            if state not in found:
                found[state] = behind(state)
                new.append(state)
    return found


def pairs_of(one, other):
    """The pairs of states that words lead to."""
    return walked((0, 0), lambda pair: list(zip(one.steps[pair[0]], other.steps[pair[1]])))


def bundles_of(machine, i):
    """The bundles that there are if number i's bits are left out."""

    def behind(bundle):
        found = {}
        for letter in range(1 << machine.width):
            bits = tuple(letter >> j & 1 for j in range(machine.width) if j != i)
            found.setdefault(bits[::-1], set()).update(machine.steps[s][letter] for s in bundle)
        return [frozenset(found[bits]) for bits in sorted(found)]

    return walked(frozenset([0]), behind, 1200)


def has_hope(machine, i, bundle):
    """Whether further bits of number i alone lead from a state of the bundle to an end."""
    for bits in range(len(machine.ends) + 1):
        if any(machine.ends[s] for s in bundle):
            return True
        bundle = {machine.steps[s][letter] for s in bundle for letter in (0, 1 << i)}
    return False


def told_apart(found, is_end, enough=65):
    """How many of what words lead to are told apart by further words, or enough of them. The words are found
    by putting letters before those that told some apart, until that tells no more."""
    states = list(found)
    place = {state: number for number, state in enumerate(states)}
    behind = list(zip(*[[place[after] for after in found[state]] for state in states]))
    classes = [bool(is_end(state)) for state in states]
    columns = [list(classes)]
    while columns and len(set(classes)) < enough:
        column = columns.pop()
        for letter in behind:
            longer = [column[after] for after in letter]
            finer = list(zip(classes, longer))
            if len(set(finer)) > len(set(classes)):
                names = {pair: number for number, pair in enumerate(dict.fromkeys(finer))}
                classes = [names[pair] for pair in finer]
                columns.append(longer)
    return min(len(set(classes)), enough)
