"""has: whether a row is a member."""

import random
import unittest

import helper
from helper import BEGIN, LARGEST_C, LARGEST_WHOLE, SAMPLES
from helper import answered, has, join, line, load, rest, some, turn, twos, wide
from sumsets.desk import answers

LARGEST = 2**200 - 1


class Members(unittest.TestCase):
    def test_by_hand(self):
        self.assertEqual(answers(twos(4) + has(4, [8]) + has(4, [9])), [1, 0, 1, 1, 1, 0])
        calls = [line(0, [3, 1, -1], 0, 0)]
        self.assertEqual(answered(*calls, has(0, [2, 5, 11]), has(0, [2, 5, 12]), has(0, [0, 0, 0])), [0, 1, 0, 1])
        self.assertEqual(answered(rest(0, [1], 2, 5), *[has(0, [x]) for x in range(8)]), [0, 0, 0, 1, 0, 0, 0, 0, 1])

    def test_all_samples(self):
        for width, samples in SAMPLES.items():
            for make, member in samples:
                rows = list(helper.small_rows(width))[:400] + list(helper.large_rows(width, 30, 7))
                given = answered(make(0), *[has(0, row) for row in rows])
                self.assertEqual(given, [0] + [1 if member(*row) else 0 for row in rows])

    def test_number_i_is_number_i(self):
        for width in range(1, 5):
            for i in range(width):
                for j in range(width):
                    a = [1 if place == i else 0 for place in range(width)]
                    row = [5 if place == j else 2**199 + 5 for place in range(width)]
                    self.assertEqual(answered(line(0, a, 5, 0), has(0, row)), [0, 1 if i == j else 0])

    def test_numbers_up_to_the_largest(self):
        for e in range(200):
            given = answered(twos(0), has(0, [2**e]), has(0, [2**e - 1]), has(0, [LARGEST - 2**e]))
            self.assertEqual(given, [0, 1, 1 if e == 1 else 0, 0])
        for m in (2, 3, 7, 59, 61, 64):
            for x in (LARGEST, LARGEST - 1, 2**199, 2**199 + 1):
                given = answered(rest(0, [1], x % m, m), has(0, [x]), has(0, [x - 1]), has(0, [x - m]))
                self.assertEqual(given, [0, 1, 0, 1])
        at_most = [line(0, [1], LARGEST_C, 1), has(0, [LARGEST_C]), has(0, [LARGEST_C + 1]), has(0, [LARGEST])]
        self.assertEqual(answered(*at_most), [0, 1, 0, 0])

    def test_large_rows_that_are_members_by_a_hair(self):
        source = random.Random(71)
        for a, c in (([1, -1], 0), ([3, -5], 2), ([1, 1, -1], -4), ([2, -7, 1, -1], 9)):
            rows = list(helper.rows_with_sum(a, c, 40, source.randrange(1000)))
            rows = [row for row in rows if max(row) <= LARGEST]
            self.assertGreater(len(rows), 15)
            for kind, told in enumerate((lambda s: s == c, lambda s: s <= c, lambda s: s != c)):
                given = answered(line(0, a, c, kind), *[has(0, row) for row in rows])
                self.assertEqual(given, [0] + [1 if told(helper.weighed(a, row)) else 0 for row in rows])

    def test_numbers_of_different_lengths(self):
        calls = [line(0, [1, -1], 0, 1)]
        rows = [[0, LARGEST], [LARGEST, 0], [LARGEST, LARGEST], [LARGEST, LARGEST - 1]]
        rows += [[1, 2**199], [2**199, 1], [0, 0]]
        self.assertEqual(answered(*calls, *[has(0, row) for row in rows]), [0, 1, 0, 1, 0, 1, 0, 1])

    def test_the_empty_row(self):
        self.assertEqual(answered(line(0, [], 0, 0), has(0, []), line(0, [], 0, 2), has(0, [])), [0, 1, 0, 0])

    def test_zeros_alone(self):
        for width in range(5):
            for c in (-1, 0, 1):
                for kind, told in enumerate((0 == c, 0 <= c, 0 != c)):
                    given = answered(line(0, [5, -3, 1, 16][:width], c, kind), has(0, [0] * width))
                    self.assertEqual(given, [0, 1 if told else 0])

    def test_of_sets_made_by_every_call(self):
        calls = [line(1, [4, -3], 2, 0), some(2, 1, 0), wide(3, 2, 0), turn(4, 3, [1, 0]), join(5, 3, 4, 8)]
        calls += [load(6, helper.saved(*calls, at=5))]
        ys = [y for y in range(60) if any(4 * x - 3 * y == 2 for x in range(60))]
        for row in helper.large_rows(2, 40, 72):
            self.assertEqual(answered(*calls, has(1, row))[-1], 1 if 4 * row[0] - 3 * row[1] == 2 else 0)
        for y in range(30):
            self.assertEqual(answered(*calls, has(2, [y]))[-1], 1 if y in ys else 0)
            for x in range(12):
                row = [x, y]
                told = [y in ys, x in ys, x in ys and y in ys, x in ys and y in ys]
                given = answered(*calls, has(3, row), has(4, row), has(5, row), has(6, row))[6:]
                self.assertEqual(given, [1 if true else 0 for true in told])


class Refusals(unittest.TestCase):
    def test_minus_2_if_there_are_not_as_many_numbers_as_the_width(self):
        for width in range(5):
            for count in range(11):
                for row in ([0] * count, [LARGEST] * count, list(range(count))):
                    given = answered(rest(0, [1, 2, 3, 4][:width], 0, 1), has(0, row))
                    self.assertEqual(given, [0, 1 if count == width else -2])

    def test_minus_1(self):
        full = [twos(t) for t in range(8)]
        for x in (8, 9, 256, LARGEST_WHOLE):
            self.assertEqual(answered(*full, has(x, [1]))[-1], -1)
        for x in range(8):
            self.assertEqual(answered(has(x, [1])), [-1])
            self.assertEqual(answered(*[twos(t) for t in range(8) if t != x], has(x, [1]))[-1], -1)
            self.assertEqual(answered(*full, BEGIN, has(x, [1]))[-2:], [0, -1])

    def test_minus_1_before_minus_2(self):
        for x in (1, 7, 8, LARGEST_WHOLE):
            for row in ([], [1, 2], [LARGEST] * 10):
                self.assertEqual(answered(twos(0), has(x, row)), [0, -1])

    def test_changes_nothing(self):
        desk = helper.desk_after(twos(0), line(3, [1, 2], 4, 1))
        before = helper.held_by(desk)
        for call in (has(0, [5]), has(0, []), has(3, [1]), has(3, [1, 1]), has(5, [1]), has(8, [1])):
            helper.answers_on(desk, call)
            self.assertEqual(helper.held_by(desk), before)

    def test_what_follows_is_read_from_behind_the_row(self):
        given = answered(twos(0), has(0, [LARGEST] * 10), has(0, []), has(9, [3] * 10), has(0, [4]))
        self.assertEqual(given, [0, -2, -2, -1, 1])


if __name__ == "__main__":
    unittest.main()
