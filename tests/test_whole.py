"""What the document promises over the whole program: the calls together, through their answers alone."""

import itertools
import random
import unittest

import helper
from helper import Machine, answered, has, in_order, join, line, load, read, rest, same, saved, size_of, some
from helper import turn, twos, wide, written

BOTH, EITHER, NOT_OTHER, NEITHER, NOT_BOTH, ALIKE = 8, 14, 4, 1, 7, 9


def told(*calls):
    """The last answer behind calls of which all others answer 0."""
    given = answered(*calls)
    assert given[:-1] == [0] * (len(calls) - 1), given
    return given[-1]


class Statements(unittest.TestCase):
    """What holds of all numbers, found out by sets alone."""

    def test_sums_of_threes_and_fives(self):
        calls = [line(0, [3, 5, -1], 0, 0), some(0, 0, 0), some(0, 0, 0), join(0, 0, 0, NEITHER)]
        calls += [line(1, [1], 1, 0), line(2, [1], 2, 0), join(1, 1, 2, EITHER), line(2, [1], 4, 0)]
        calls += [join(1, 1, 2, EITHER), line(2, [1], 7, 0), join(1, 1, 2, EITHER)]
        self.assertEqual(told(*calls, same(0, 1)), 1)

    def test_there_is_always_a_larger_number(self):
        larger = [line(0, [1, -1], -1, 1)]
        every = [*larger, some(1, 0, 1), join(1, 1, 1, NEITHER), some(1, 1, 0), join(1, 1, 1, NEITHER)]
        self.assertEqual(told(*every, has(1, [])), 1)
        smaller = [*larger, some(1, 0, 0), join(1, 1, 1, NEITHER)]
        self.assertEqual(told(*smaller, line(2, [1], 0, 0), same(1, 2)), 1)

    def test_there_is_a_power_of_two_above_every_number(self):
        calls = [twos(0), wide(0, 0, 0), line(1, [1, -1], -1, 1), join(0, 0, 1, BOTH), some(0, 0, 1)]
        self.assertEqual(told(*calls, line(1, [-1], 0, 1), same(0, 1)), 1)

    def test_what_powers_of_two_leave_when_parted_by_7(self):
        calls = [rest(1, [1], 1, 7), rest(2, [1], 2, 7), join(1, 1, 2, EITHER), rest(2, [1], 4, 7)]
        calls += [join(1, 1, 2, EITHER), twos(0), join(3, 0, 1, NOT_OTHER), line(4, [1], -1, 0)]
        self.assertEqual(told(*calls, same(3, 4)), 1)
        # None of the three can be spared.
        for left in (1, 2, 4):
            self.assertEqual(told(*calls, rest(2, [1], left, 7), join(2, 0, 2, BOTH), same(2, 4)), 0)

    def test_sums_of_two_powers_of_two(self):
        calls = [twos(0), wide(1, 0, 1), wide(1, 1, 2), twos(0), wide(2, 0, 0), wide(2, 2, 2)]
        calls += [join(1, 1, 2, BOTH), line(2, [1, 1, -1], 0, 0), join(1, 1, 2, BOTH), some(1, 1, 0), some(1, 1, 0)]
        rows = list(range(300)) + [2**i + 2**j for i in (0, 80, 198) for j in (0, 5, 80, 197, 198)]
        rows += [2**150 + 2**3 + 1, 2**200 - 1]
        for start in range(0, len(rows), 80):
            part = rows[start : start + 80]
            given = answered(*calls, *[has(1, [z]) for z in part])[len(calls) :]
            ones = [bin(z).count("1") for z in part]
            right = [1 if one == 2 or (one == 1 and z > 1) else 0 for one, z in zip(ones, part)]
            self.assertEqual(given, right)

    def test_numbers_that_differ_are_larger_or_smaller(self):
        for a, c in (([3, -2], 4), ([1, -1], 0), ([2, 5, -7], -3), ([1, 1, -1, -1], 1)):
            less = [-f for f in a]
            calls = [line(0, a, c, 2), line(1, a, c - 1, 1), line(2, less, -c - 1, 1), join(3, 1, 2, EITHER)]
            self.assertEqual(told(*calls, same(0, 3)), 1)
            calls += [join(4, 0, 0, NEITHER), line(5, a, c, 0), join(6, 1, 2, NEITHER)]
            self.assertEqual(answered(*calls, same(4, 5), same(6, 5))[7:], [1, 1])

    def test_multiples_by_sums_and_by_rests(self):
        for m in (1, 2, 3, 5, 8, 12, 16):
            calls = [line(0, [1, -m], 0, 0), some(0, 0, 1), rest(1, [1], 0, m)]
            self.assertEqual(told(*calls, same(0, 1)), 1)


class Laws(unittest.TestCase):
    """Two ways that must come to one set, of all samples and of sets that no sum made."""

    def sets(self):
        for width, samples in helper.SAMPLES.items():
            for (one, member), (other, other_member) in itertools.combinations(samples, 2):
                yield width, one(1), other(2)
        machines = [machine for machine in helper.some_machines(400, 95, largest=6)]
        for one, other in zip(machines[0::2], machines[1::2]):
            if one.width == other.width:
                yield one.width, load(1, written(*one)), load(2, written(*other))

    def alike(self, calls, one_way, other_way):
        """Both ways make a set at place 0, or a way has too many states."""
        if -7 not in answered(*calls, *one_way) + answered(*calls, *other_way):
            self.assertEqual(saved(*calls, *one_way), saved(*calls, *other_way))
            self.compared += 1

    def test_of_logic(self):
        self.compared = 0
        for width, one, other in self.sets():
            calls = [one, other]
            not_one, not_other = join(3, 1, 1, NEITHER), join(4, 2, 2, NEITHER)
            self.alike(calls, [join(0, 1, 2, BOTH)], [not_one, not_other, join(0, 3, 4, NEITHER)])
            self.alike(calls, [join(0, 1, 2, EITHER)], [not_one, not_other, join(0, 3, 4, NOT_BOTH)])
            self.alike(calls, [join(0, 1, 1, BOTH)], [not_one, join(0, 3, 3, NEITHER)])
            self.alike(calls, [join(0, 1, 2, ALIKE)], [not_one, not_other, join(0, 3, 4, ALIKE)])
            self.alike(calls, [join(0, 1, 2, NOT_OTHER)], [not_other, join(0, 4, 1, BOTH)])
            self.alike(calls, [join(0, 1, 2, 6)], [not_one, join(0, 3, 2, ALIKE)])
        self.assertGreater(self.compared, 300)

    def test_of_some(self):
        self.compared = 0
        for width, one, other in self.sets():
            for i in range(width):
                apart = [some(3, 1, i), some(4, 2, i), join(0, 3, 4, EITHER)]
                self.alike([one, other], [join(3, 1, 2, EITHER), some(0, 3, i)], apart)
                for j in range(i):
                    self.alike([one, other], [some(3, 1, i), some(0, 3, j)], [some(3, 1, j), some(0, 3, i - 1)])
        self.assertGreater(self.compared, 150)

    def test_of_wide_and_turn(self):
        self.compared = 0
        source = random.Random(96)
        for width, one, other in self.sets():
            if width < 4:
                i = source.randrange(width + 1)
                self.alike([one, other], [join(0, 1, 1, BOTH)], [wide(3, 1, i), some(0, 3, i)])
                apart = [wide(3, 1, i), wide(4, 2, i), join(0, 3, 4, 6)]
                self.alike([one, other], [join(3, 1, 2, 6), wide(0, 3, i)], apart)
            p = source.sample(range(width), width)
            back = [p.index(i) for i in range(width)]
            self.alike([one, other], [join(0, 1, 1, BOTH)], [turn(3, 1, p), turn(0, 3, back)])
            apart = [turn(3, 1, p), turn(4, 2, p), join(0, 3, 4, 13)]
            self.alike([one, other], [join(3, 1, 2, 13), turn(0, 3, p)], apart)
        self.assertGreater(self.compared, 150)


class LoadedSets(unittest.TestCase):
    """What's made of sets that no sum made, against the machines themselves."""

    def test_join(self):
        machines = list(helper.some_machines(300, 97, largest=20))
        counts = {0: 0, -7: 0}
        for one, other in zip(machines[0::2], machines[1::2]):
            if one.width != other.width:
                continue
            pairs = helper.pairs_of(one, other)
            for table in (1, 6, 8, 13):

                def is_end(pair):
                    return table >> (2 * one.ends[pair[0]] + other.ends[pair[1]]) & 1

                def member(row):
                    return table >> (2 * helper.tells(one, row) + helper.tells(other, row)) & 1

                calls = [load(1, written(*one)), load(2, written(*other)), join(0, 1, 2, table)]
                answer, size = answered(*calls, size_of(0))[2:]
                apart = helper.told_apart(pairs, is_end)
                counts[answer] += 1
                self.assertEqual((answer, size), (0, apart) if apart <= 64 else (-7, -1))
                if answer == 0:
                    self.check(calls, one.width, member)
        self.assertGreater(min(counts.values()), 20)

    def test_some(self):
        counts = {0: 0, -7: 0}
        for machine in helper.some_machines(150, 98, largest=24):
            for i in range(machine.width):
                bundles = helper.bundles_of(machine, i)
                apart = 65
                if len(bundles) <= 1024:
                    apart = helper.told_apart(bundles, lambda bundle: helper.has_hope(machine, i, bundle))
                calls = [load(1, written(*machine)), some(0, 1, i)]
                answer, size = answered(*calls, size_of(0))[1:]
                counts[answer] += 1
                self.assertEqual((answer, size), (0, apart) if apart <= 64 else (-7, -1))
                if answer == 0:
                    self.check(calls, machine.width - 1, lambda row: found_by_some(machine, i, row))
        self.assertGreater(min(counts.values()), 10)

    def test_wide_and_turn(self):
        source = random.Random(99)
        for machine in helper.some_machines(60, 100):
            calls = [load(1, written(*machine))]
            p = source.sample(range(machine.width), machine.width)
            self.check(
                calls + [turn(0, 1, p)], machine.width, lambda row: helper.tells(machine, tuple(row[i] for i in p))
            )
            if machine.width < 4:
                i = source.randrange(machine.width + 1)
                self.check(
                    calls + [wide(0, 1, i)],
                    machine.width + 1,
                    lambda row: helper.tells(machine, row[:i] + row[i + 1 :]),
                )
                self.assertEqual(saved(*calls, wide(0, 1, i))[1], len(machine.ends))

    def check(self, calls, width, member):
        machine = read(saved(*calls))
        self.assertTrue(helper.is_of_a_set(written(*machine)))
        self.assertEqual(machine, in_order(Machine(*machine)))
        rows = list(itertools.islice(helper.small_rows(width), 30)) + list(helper.large_rows(width, 4, width))
        right = [1 if member(row) else 0 for row in rows]
        self.assertEqual(answered(*calls, *[has(0, row) for row in rows])[len(calls) :], right)


def found_by_some(machine, i, row):
    """Whether some number put in as number i makes a row of the set: all its bits are tried at once."""
    states = {0}
    full = row[:i] + (0,) + row[i:]
    for letter in helper.word_of(full, helper.shortest(full)):
        states = {machine.steps[s][letter | bit] for s in states for bit in (0, 1 << i)}
    return helper.has_hope(machine, i, states)


if __name__ == "__main__":
    unittest.main()
