"""save: the bytes of every kind of set."""

import itertools
import unittest

import helper
from helper import (
    BEGIN,
    LARGEST_C,
    LARGEST_WHOLE,
    SAMPLES,
    answered,
    has,
    join,
    line,
    load,
    rest,
    save,
    saved,
    some,
    turn,
    twos,
    wide,
)
from sumsets.desk import answers

# For a set: what makes it at place 0, its width and its members.
MADE = {
    "line": ([line(0, [3, -5], 2, 0)], 2, lambda x, y: 3 * x - 5 * y == 2),
    "line, at most": ([line(0, [2, 1, -3], 4, 1)], 3, lambda x, y, z: 2 * x + y - 3 * z <= 4),
    "line, other than": ([line(0, [1, 1, -1, -1], 1, 2)], 4, lambda x, y, z, w: x + y - z - w != 1),
    "line of no number": ([line(0, [], 3, 1)], 0, lambda: True),
    "rest": ([rest(0, [2, 3], 1, 12)], 2, lambda x, y: (2 * x + 3 * y - 1) % 12 == 0),
    "rest of no number": ([rest(0, [], 3, 2)], 0, lambda: False),
    "twos": ([twos(0)], 1, helper.is_two),
    "join": (
        [twos(1), rest(2, [1], 2, 7), join(0, 1, 2, 6)],
        1,
        lambda x: helper.is_two(x) != (x % 7 == 2),
    ),
    "some": (
        [line(1, [3, 5, -1], 0, 0), some(2, 1, 0), some(0, 2, 0)],
        1,
        lambda z: z not in (1, 2, 4, 7),
    ),
    "some of one number": ([twos(1), some(0, 1, 0)], 0, lambda: True),
    "wide": ([line(1, [1, -2], 0, 1), wide(0, 1, 1)], 3, lambda x, y, z: x <= 2 * z),
    "turn": ([line(1, [4, 2, -1], 0, 0), turn(0, 1, [2, 0, 1])], 3, lambda x, y, z: 4 * z + 2 * x == y),
    "load": ([load(0, [1, 2, 0, 1, 0, 0, 1, 0, 0, 1, 0, 1, 0])], 1, lambda x: x == 0),
}


class Bytes(unittest.TestCase):
    def test_bytes_that_are_found_by_hand(self):
        self.assertEqual(
            answers(twos(3) + save(3)),
            [1, 0] + [20, 0, 18] + [1, 3, 0] + [0, 0, 0, 1, 0] + [1, 1, 0, 2, 0] + [0, 2, 0, 2, 0],
        )
        self.assertEqual(answers(line(0, [], 0, 0) + save(0)), [1, 0] + [8, 0, 6] + [0, 1, 0] + [1, 0, 0])
        self.assertEqual(answers(line(0, [], 1, 0) + save(0)), [1, 0] + [8, 0, 6] + [0, 1, 0] + [0, 0, 0])
        self.assertEqual(
            saved(line(0, [1, 1, -1], 0, 0)),
            [3, 3, 0]
            + [1, 0, 0, 1, 0, 1, 0, 2, 0, 1, 0, 0, 0, 0, 0, 1, 0]
            + [0, 1, 0, 1, 0, 1, 0, 1, 0, 1, 0, 1, 0, 1, 0, 1, 0]
            + [0, 1, 0, 2, 0, 2, 0, 1, 0, 0, 0, 1, 0, 1, 0, 2, 0],
        )
        every = [4, 1, 0, 1] + [0] * 32
        self.assertEqual(saved(rest(0, [1, 2, 3, 4], 5, 1)), every)

    def test_of_every_kind_of_set(self):
        for name, (calls, width, member) in MADE.items():
            with self.subTest(name):
                b = saved(*calls)
                helper.check_set(self, helper.read(b), width, member)
                self.assertTrue(helper.is_of_a_set(b))
                self.assertEqual(len(b), 3 + b[1] * (1 + 2 * 2**width))
                for byte in b:
                    self.assertIs(type(byte), int)

    def test_of_all_samples(self):
        for width, samples in SAMPLES.items():
            for make, member in samples:
                b = saved(make(0))
                helper.check_set(self, helper.read(b), width, member)
                self.assertTrue(helper.is_of_a_set(b))

    def test_largest(self):
        b = saved(rest(0, [1, 3, 5, 7], 0, 220))
        self.assertEqual(b[:3], [4, 64, 0])
        self.assertEqual(len(b), 3 + 64 * 33)
        self.assertTrue(helper.is_of_a_set(b))

    def test_the_fewest_states(self):
        for a, c, kind in (([1], 6, 0), ([3, -5], 2, 0), ([1, -2, 1], 3, 1), ([2, 4], 9, 2), ([1], LARGEST_C, 1)):
            self.assertEqual(saved(line(0, a, c, kind))[1], helper.states_of_line(a, c, kind))
        for a, c, m in (([1], 2, 5), ([2, 3], 1, 12), ([1, 3, 5, 7], 0, 220), ([4], 3, 512)):
            self.assertEqual(saved(rest(0, a, c, m))[1], helper.states_of_rest(a, c, m))

    def test_states_are_numbered_in_the_order_in_which_words_come(self):
        # All words in their order, and each state as it's first come to: the document's own words.
        for calls in (MADE["line"][0], MADE["turn"][0], MADE["some"][0], MADE["join"][0]):
            machine = helper.read(saved(*calls))
            met = []
            for length in range(7):
                for word in itertools.product(range(1 << machine.width), repeat=length):
                    state = 0
                    for letter in word:
                        state = machine.steps[state][letter]
                    if state not in met:
                        met.append(state)
                if len(met) == len(machine.ends):
                    break
            self.assertEqual(met, list(range(len(machine.ends))))


class OneMachine(unittest.TestCase):
    """Two ways to make one set give the same bytes."""

    def test_sums(self):
        self.alike([line(0, [1, -2], 3, 0)], [line(0, [-4, 8], -12, 0)])
        self.alike([line(0, [2, 2], 7, 1)], [line(0, [1, 1], 3, 1)])
        self.alike([line(0, [2, -4], 7, 0)], [line(0, [0, 0], 1, 0)])
        self.alike([rest(0, [3], 1, 4)], [rest(0, [-1], 1, 4)], [rest(0, [1], 3, 4)], [rest(0, [2], 6, 8)])
        self.alike([rest(0, [5], 2, 1)], [line(0, [0], 0, 0)], [line(0, [-1], 0, 1)], [line(0, [1], -1, 2)])

    def test_logic(self):
        by_both = [rest(1, [1], 1, 2), rest(2, [1], 2, 3), join(0, 1, 2, 8)]
        by_neither = [rest(1, [1], 0, 2), rest(2, [1], 2, 3), join(3, 2, 2, 1), join(0, 1, 3, 1)]
        self.alike([rest(0, [1], 5, 6)], by_both, by_neither)
        two_sums = [line(1, [3, -1], 5, 1), line(2, [-3, 1], -5, 1), join(0, 1, 2, 8)]
        self.alike([line(0, [3, -1], 5, 0)], two_sums)
        self.alike([line(0, [3, -1], 5, 2)], two_sums + [join(0, 0, 0, 1)], two_sums + [join(0, 0, 1, 3)])

    def test_some_and_sums(self):
        self.alike(
            [rest(1, [1], 0, 3), rest(2, [1], 2, 3), join(0, 1, 2, 14)],
            [line(1, [1, -3], 0, 0), some(1, 1, 1), line(2, [1, -3], 2, 0), some(2, 2, 1), join(0, 2, 1, 14)],
        )
        self.alike([line(0, [1, -1], -1, 1)], [line(1, [1, -1, 1], -1, 0), some(0, 1, 2)])
        self.alike([rest(0, [], 0, 1)], [twos(0), some(0, 0, 0)], [line(0, [5, -7], 3, 0)] + [some(0, 0, 0)] * 2)

    def test_wide_and_turn(self):
        self.alike([line(0, [2, 0, -3], 1, 0)], [line(1, [2, -3], 1, 0), wide(0, 1, 1)])
        self.alike([line(0, [2, -3], 1, 0)], [line(1, [2, -3], 1, 0), wide(0, 1, 1), some(0, 0, 1)])
        self.alike([line(0, [2, -3], 1, 0)], [line(1, [-3, 2], 1, 0), turn(0, 1, [1, 0])])
        self.alike([rest(0, [0, 0, 0, 1], 1, 5)], [rest(0, [1], 1, 5), wide(0, 0, 0), wide(0, 0, 1), wide(0, 0, 0)])

    def test_no_row_and_every_row(self):
        for k in range(5):
            some_set = rest(1, [1, 2, 3, 4][:k], 1, 5)
            none = [k, 1, 0, 0] + [0, 0] * 2**k
            every = [k, 1, 0, 1] + [0, 0] * 2**k
            self.assertEqual(saved(some_set, join(0, 1, 1, 0)), none)
            self.assertEqual(saved(some_set, join(2, 1, 1, 1), join(0, 1, 2, 8)), none)
            self.assertEqual(saved(some_set, join(0, 1, 1, 15)), every)
            self.assertEqual(saved(some_set, join(2, 1, 1, 1), join(0, 1, 2, 14)), every)

    def alike(self, *ways):
        found = [saved(*way) for way in ways]
        self.assertEqual(found, [found[0]] * len(ways))


class Calls(unittest.TestCase):
    def test_from_every_place(self):
        calls = [number for t in range(8) for number in line(t, [1], t, 0)]
        for t in range(8):
            b = helper.parted(answers(calls + save(t)))[-1]
            self.assertEqual(b[2:], saved(line(0, [1], t, 0)))

    def test_changes_nothing(self):
        calls = twos(0) + save(0) + save(0) + has(0, [8]) + save(0)
        parts = helper.parted(answers(calls))
        self.assertEqual(parts, [[0], parts[1], parts[1], [1], parts[1]])

    def test_minus_1(self):
        for x in (8, 9, 64, 256, LARGEST_WHOLE):
            self.assertEqual(answered(*[twos(t) for t in range(8)], save(x))[-1], -1)
        for x in range(8):
            self.assertEqual(answered(save(x)), [-1])
            self.assertEqual(answered(*[twos(t) for t in range(8) if t != x], save(x))[-1], -1)
            self.assertEqual(answered(*[twos(t) for t in range(8)], BEGIN, save(x))[-2:], [0, -1])


if __name__ == "__main__":
    unittest.main()
