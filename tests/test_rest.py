"""rest: the rows whose sum leaves what c leaves when parted by m."""

import random
import unittest

import helper
from helper import BEGIN, LARGEST_C, LARGEST_WHOLE, answered, line, made, rest, twos


def check_rest(test, a, c, m):
    def member(*row):
        return (helper.weighed(a, row) - c) % m == 0

    rows = list(helper.rows_with_sum(a, c % m, 8, len(a)))
    helper.check_set(test, made(rest(0, a, c, m)), len(a), member, rows)


class Members(unittest.TestCase):
    def test_the_document_s_own(self):
        check_rest(self, [1], 2, 5)

    def test_machine_written_out(self):
        self.assertEqual(helper.whole(made(rest(0, [1], 0, 2))), (1, [1, 1, 0], [[1, 2], [1, 1], [2, 2]]))
        self.assertEqual(helper.whole(made(rest(0, [1], 1, 2))), (1, [0, 0, 1], [[1, 2], [1, 1], [2, 2]]))
        self.assertEqual(helper.whole(made(rest(0, [1], 0, 3))), (1, [1, 0, 0], [[0, 1], [2, 0], [1, 2]]))

    def test_width_0_has_one_row(self):
        for c in (-6, -5, -1, 0, 1, 2, 6, 12, LARGEST_C, -LARGEST_C):
            for m in (1, 2, 3, 6, 512):
                end = 1 if c % m == 0 else 0
                self.assertEqual(helper.whole(made(rest(0, [], c, m))), (0, [end], [[0]]))

    def test_by_1_all_rows(self):
        for width in range(5):
            every = (width, [1], [[0] * (1 << width)])
            for c in (-LARGEST_C, -1, 0, 7, LARGEST_C):
                self.assertEqual(helper.whole(made(rest(0, [3, -16, 1, 0][:width], c, 1))), every)

    def test_powers_of_two(self):
        for power in range(10):
            for a in ([1], [-1], [3], [2], [16], [0]):
                for c in (-5, 0, 1, 6, 32):
                    check_rest(self, a, c, 1 << power)

    def test_odd_and_even_of_width_1(self):
        for m in list(range(1, 30)) + [33, 48, 60, 61, 63, 122, 124, 240, 244]:
            for a in ([1], [-1], [5], [12]):
                if helper.states_of_rest(a, m // 3, m) <= 64:
                    check_rest(self, a, m // 3, m)

    def test_many_of_width_2_to_4(self):
        source = random.Random(21)
        done = 0
        while done < 120:
            width = source.randrange(2, 5)
            a = [source.randrange(-16, 17) for i in range(width)]
            m = source.randrange(1, 80)
            c = source.choice([0, source.randrange(-300, 300), source.randrange(-LARGEST_C, LARGEST_C + 1)])
            if helper.states_of_rest(a, c, m) <= 64:
                check_rest(self, a, c, m)
                done += 1

    def test_factors_and_total_at_their_bounds(self):
        for a in ([16], [-16], [16, -16], [-16, -16, 16, 16]):
            for c in (-LARGEST_C, LARGEST_C, 0):
                for m in (2, 7, 10, 48, 512):
                    check_rest(self, a, c, m)

    def test_largest_divisor(self):
        for c in (0, 1, 256, 511, 512, -1):
            check_rest(self, [1], c, 512)
            check_rest(self, [16, 16], c, 512)

    def test_only_what_c_leaves_matters(self):
        plain = helper.whole(made(rest(0, [3, 1], 2, 7)))
        for c in (9, -5, 2 + 7 * 1000000, 2 - 7 * 1000000):
            self.assertEqual(helper.whole(made(rest(0, [3, 1], c, 7))), plain)
        self.assertEqual(helper.whole(made(rest(0, [10, -6], 2, 7))), plain)
        self.assertEqual(helper.whole(made(rest(0, [6, 2], 4, 14))), plain)

    def test_numbers_of_a_from_k_on_do_not_matter(self):
        plain = helper.whole(made(rest(0, [3], 2, 7)))
        for more in ([0], [17], [-17, 2147483647], [-2147483648] * 9):
            self.assertEqual(helper.whole(made(rest(0, [3] + more, 2, 7, k=1))), plain)


class ManyStates(unittest.TestCase):
    def test_refused_just_if_there_are_more_than_64(self):
        source = random.Random(22)
        for number in range(250):
            width = source.randrange(1, 5)
            a = [source.randrange(-16, 17) for i in range(width)]
            m = source.choice([source.randrange(1, 140), 2 * source.randrange(1, 100), 16 * source.randrange(1, 33)])
            c = source.randrange(-1000, 1000)
            states = helper.states_of_rest(a, c, m)
            if states > 64:
                self.assertEqual(answered(rest(0, a, c, m)), [-7], (a, c, m))
            else:
                self.assertEqual(len(made(rest(0, a, c, m)).ends), states, (a, c, m))

    def test_64_states_and_65(self):
        self.assertEqual(helper.states_of_rest([1], 0, 244), 64)
        check_rest(self, [1], 0, 244)
        self.assertEqual(len(made(rest(0, [1], 0, 244)).ends), 64)
        check_rest(self, [1], 5, 63)
        for a, c, m in (([1], 0, 488), ([1], 0, 65), ([1, 2], 3, 65), ([1, 1, 1, 1], -1, 65)):
            self.assertEqual(helper.states_of_rest(a, c, m), 65)
            self.assertEqual(answered(rest(0, a, c, m)), [-7])

    def test_futures_alone_show_that_there_are_too_many(self):
        words = list(helper.some_words(1, 7, 200, 1))
        self.assertEqual(helper.futures(lambda x: x % 65 == 0, words, [(y,) for y in range(65)]), 65)

    def test_a_large_divisor_may_have_few_states(self):
        for a, m in (([16], 496), ([8, -8], 504), ([10], 510), ([0, 0], 511), ([7], 511 - 7)):
            states = helper.states_of_rest(a, 0, m)
            self.assertEqual(answered(rest(0, a, 0, m)), [0 if states <= 64 else -7])
        check_rest(self, [16], 32, 496)
        check_rest(self, [8, -8], 16, 504)


class Refusals(unittest.TestCase):
    def test_wrong_divisor(self):
        for m in (0, 513, 514, LARGEST_WHOLE):
            self.assertEqual(answered(rest(0, [1], 0, m)), [-2])
            self.assertEqual(answered(rest(0, [], 0, m)), [-2])
        for m in (1, 512):
            self.assertEqual(answered(rest(0, [1], 0, m)), [0])

    def test_wrong_width(self):
        for k in (5, 10, LARGEST_WHOLE):
            self.assertEqual(answered(rest(0, [1] * 10, 0, 2, k=k)), [-2])
        self.assertEqual(answered(rest(0, [1] * 10, 0, 2, k=4)), [0])

    def test_too_few_numbers(self):
        for k in range(1, 5):
            for length in range(k):
                self.assertEqual(answered(rest(0, [1] * length, 0, 2, k=k)), [-2])
            self.assertEqual(answered(rest(0, [1] * k, 0, 2, k=k)), [0])

    def test_factor_beyond_its_bounds(self):
        for k in range(1, 5):
            for i in range(k):
                for f in (-17, 17, 2147483647, -2147483648, -16, 16):
                    a = [0] * k
                    a[i] = f
                    self.assertEqual(answered(rest(0, a, 0, 2)), [0 if abs(f) == 16 else -2])

    def test_total_beyond_its_bounds(self):
        for c in (LARGEST_C + 1, -LARGEST_C - 1, LARGEST_WHOLE, -LARGEST_WHOLE - 1):
            self.assertEqual(answered(rest(0, [1], c, 2)), [-2])
        for c in (LARGEST_C, -LARGEST_C):
            self.assertEqual(answered(rest(0, [1], c, 2)), [0])

    def test_no_place(self):
        for t in (8, 9, LARGEST_WHOLE):
            self.assertEqual(answered(rest(t, [1], 0, 2)), [-1])
        for t in range(8):
            self.assertEqual(answered(rest(t, [1], 0, 2)), [0])

    def test_which_of_two_is_answered(self):
        self.assertEqual(answered(rest(8, [17], 0, 0)), [-1])
        self.assertEqual(answered(rest(8, [1], 0, 511)), [-1])
        self.assertEqual(answered(rest(0, [1], 0, 511)), [-7])
        self.assertEqual(answered(rest(0, [1], LARGEST_C + 1, 511)), [-2])

    def test_refused_calls_change_nothing(self):
        desk = helper.desk_after(BEGIN, twos(0), line(3, [1], 4, 1))
        before = helper.held_by(desk)
        for call in (rest(8, [1], 0, 2), rest(0, [17], 0, 2), rest(0, [1], 0, 511), rest(1, [1], 0, 0)):
            self.assertLess(helper.answers_on(desk, call)[1], 0)
            self.assertEqual(helper.held_by(desk), before)


if __name__ == "__main__":
    unittest.main()
