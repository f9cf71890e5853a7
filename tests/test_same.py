"""same: whether two sets have one width and the same members."""

import unittest

import helper
from helper import BEGIN, LARGEST_C, LARGEST_WHOLE, SAMPLES
from helper import answered, join, line, load, rest, same, some, turn, twos, wide
from sumsets.desk import answers


class Same(unittest.TestCase):
    def test_by_hand(self):
        calls = [line(0, [1, -2], 3, 0), line(1, [-4, 8], -12, 0), line(2, [1, -2], 4, 0)]
        self.assertEqual(answered(*calls, same(0, 1), same(1, 0), same(0, 2), same(2, 1)), [0, 0, 0, 1, 1, 0, 0])
        self.assertEqual(answers(twos(7) + same(7, 7)), [1, 0, 1, 1])

    def test_a_set_and_itself(self):
        for samples in SAMPLES.values():
            for make, member in samples:
                self.assertEqual(answered(make(0), make(1), same(0, 1), same(0, 0)), [0, 0, 1, 1])

    def test_all_samples_differ(self):
        every = [make for samples in SAMPLES.values() for make, member in samples]
        for first, one in enumerate(every):
            for second, other in enumerate(every):
                self.assertEqual(answered(one(3), other(5), same(3, 5)), [0, 0, 1 if first == second else 0])

    def test_two_ways(self):
        two_ways = [
            [rest(0, [1], 0, 6), rest(2, [1], 0, 2), rest(3, [1], 0, 3), join(1, 2, 3, 8)],
            [line(0, [1, -1], 0, 0), line(2, [1, -1], 0, 1), turn(3, 2, [1, 0]), join(1, 2, 3, 8)],
            [line(0, [1, -1], -1, 1), line(2, [1, 1, -1], -1, 0), some(1, 2, 1)],
            [twos(0), wide(2, 0, 0), some(1, 2, 0)],
            [rest(0, [2, 2], 0, 6), rest(2, [-2, 1], 0, 3), turn(1, 2, [1, 0])],
            [twos(0), load(1, helper.saved(twos(0)))],
        ]
        for calls in two_ways:
            self.assertEqual(answered(*calls, same(0, 1), same(1, 0))[len(calls) :], [1, 1])

    def test_sets_that_are_made_with_more_states_on_the_way(self):
        # Both in and out of the multiples of 61: reckoned by 61 states, told by one.
        calls = [rest(2, [1], 0, 61), join(3, 2, 2, 1), join(0, 2, 3, 14), join(1, 2, 3, 8)]
        calls += [line(4, [0], 0, 0), line(5, [0], 1, 0)]
        self.assertEqual(answered(*calls, same(0, 4), same(1, 5), same(0, 1), same(4, 5))[6:], [1, 1, 0, 0])

    def test_they_differ_far_out(self):
        for c in (0, 1, 1000, LARGEST_C - 1):
            for kind in (0, 1, 2):
                self.assertEqual(answered(line(0, [1], c, kind), line(1, [1], c + 1, kind), same(0, 1)), [0, 0, 0])
        calls = [line(0, [1], LARGEST_C, 0), line(1, [1], -1, 0), same(0, 1)]
        self.assertEqual(answered(*calls), [0, 0, 0])
        # All but one row.
        calls = [line(0, [1, 1], 30000, 2), line(1, [1, 1], -1, 2), same(0, 1)]
        self.assertEqual(answered(*calls), [0, 0, 0])

    def test_they_differ_by_ends_alone_or_by_steps_alone(self):
        self.assertEqual(answered(line(0, [3, -1], 1, 0), line(1, [3, -1], 1, 2), same(0, 1)), [0, 0, 0])
        self.assertEqual(answered(line(0, [1, -1], 0, 1), line(1, [-1, 1], 0, 1), same(0, 1)), [0, 0, 0])

    def test_of_other_widths(self):
        for k in range(5):
            for j in range(5):
                for c in (0, 1):
                    calls = [line(0, [0] * k, c, 0), line(1, [0] * j, c, 0), same(0, 1)]
                    self.assertEqual(answered(*calls), [0, 0, 1 if j == k else 0])
        self.assertEqual(answered(twos(0), wide(1, 0, 0), same(0, 1), same(1, 0)), [0, 0, 0, 0])


class Refusals(unittest.TestCase):
    def test_minus_1(self):
        full = [twos(t) for t in range(8)]
        for x in (8, 9, 256, LARGEST_WHOLE):
            self.assertEqual(answered(*full, same(x, 0), same(0, x), same(x, x))[8:], [-1] * 3)
        for x in range(8):
            others = [twos(t) for t in range(8) if t != x]
            y = (x + 1) % 8
            self.assertEqual(answered(same(x, x)), [-1])
            self.assertEqual(answered(*others, same(x, y), same(y, x), same(x, x), same(y, y))[7:], [-1, -1, -1, 1])
            self.assertEqual(answered(*full, BEGIN, same(x, x), same(x, y))[-3:], [0, -1, -1])

    def test_changes_nothing(self):
        desk = helper.desk_after(twos(0), line(3, [1, 2], 4, 1))
        before = helper.held_by(desk)
        for call in (same(0, 3), same(0, 0), same(3, 5), same(8, 0)):
            helper.answers_on(desk, call)
            self.assertEqual(helper.held_by(desk), before)


if __name__ == "__main__":
    unittest.main()
